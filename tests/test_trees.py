"""[15]: ShapeTree."""

import unittest

from nextbough.shapekinds import queues_of
from nextbough.trees import ShapeTree
from support import LONG, NOT_NUMBERS, NOT_SHAPES, TWO, Nodes, check_refusals, raised, sample_shapes


class ShapeTreeTest(unittest.TestCase):
    def test_example(self):
        tree = ShapeTree(LONG)
        self.assertEqual((tree.kids_of(0), tree.path_of(1), tree.node_of(2)), ((1, 5), (0, 1, 2, 4), 5))
        self.assertEqual((tree.meet_of(3, 4), tree.low_of(5), tree.high_of(1), tree.toward(2, 4)), (2, 2, 2, 1))

    def test_nodes_and_queues_by_the_words(self):
        for form in sample_shapes(queues=24):
            tree, nodes = ShapeTree(form), Nodes(form)
            self.assertEqual(tree.form_of(), form)
            for node in range(len(nodes.shapes)):
                above = nodes.above[node]
                self.assertEqual(tree.bough_of(node), nodes.shapes[node])
                self.assertEqual(tree.parent_of(node), above[-1] if above else None)
                self.assertEqual(tree.kids_of(node), tuple(nodes.kids[node]))
                self.assertEqual(tree.depth_of(node), len(above))
                self.assertEqual(tree.low_of(node), nodes.held[node][0])
                self.assertEqual(tree.high_of(node), nodes.held[node][-1] + 1)
                leaf = nodes.leaves.index(node) if node in nodes.leaves else None
                self.assertEqual(tree.queue_at(node), leaf)
            for queue, leaf in enumerate(nodes.leaves):
                self.assertEqual(tree.node_of(queue), leaf)
                self.assertEqual(tree.path_of(queue), nodes.path(queue))

    def test_pairs_of_nodes_by_the_words(self):
        for form in sample_shapes(queues=9):
            tree, nodes = ShapeTree(form), Nodes(form)
            paths = [above + (node,) for node, above in enumerate(nodes.above)]
            for one in range(len(paths)):
                for other in range(len(paths)):
                    common = [node for node in paths[one] if node in paths[other]]
                    self.assertEqual(tree.meet_of(one, other), common[-1])
                    self.assertIs(tree.lies_in(one, other), other in paths[one])
                    if one != other and one in paths[other]:
                        child = paths[other][len(paths[one])]
                        self.assertEqual(tree.toward(one, other), nodes.kids[one].index(child))
                    else:
                        self.assertEqual(raised(tree.toward, one, other), ("NotUsable", "down", -1))

    def test_a_queue_alone(self):
        tree = ShapeTree(())
        self.assertEqual((tree.form_of(), tree.bough_of(0), tree.parent_of(0), tree.kids_of(0)), ((), (), None, ()))
        self.assertEqual((tree.depth_of(0), tree.low_of(0), tree.high_of(0), tree.node_of(0)), (0, 0, 1, 0))
        self.assertEqual((tree.queue_at(0), tree.path_of(0), tree.meet_of(0, 0)), (0, (0,), 0))
        self.assertIs(tree.lies_in(0, 0), True)
        self.assertEqual(raised(tree.toward, 0, 0), ("NotUsable", "down", -1))

    def test_kinds_of_results(self):
        tree = ShapeTree(form=LONG)
        self.assertIs(type(tree.kids_of(node=0)), tuple)
        self.assertIs(type(tree.path_of(queue=0)), tuple)
        self.assertEqual(tree.kids_of(5), ())
        self.assertEqual(tree.meet_of(one=1, other=3), 1)
        self.assertEqual(tree.lies_in(node=3, top=1), True)
        self.assertEqual(tree.toward(node=0, down=5), 1)

    def test_wrong_parameters(self):
        check_refusals(self, ShapeTree, {"form": TWO}, {"form": NOT_SHAPES})
        for form in (LONG, TWO, ()):
            tree = ShapeTree(form)
            bad_nodes = NOT_NUMBERS + [len(Nodes(form).shapes), 100, 2 ** 70]
            bad_queues = NOT_NUMBERS + [queues_of(form), 100]
            for call in (tree.bough_of, tree.parent_of, tree.kids_of, tree.depth_of, tree.low_of, tree.high_of,
                         tree.queue_at):
                check_refusals(self, call, {"node": 0}, {"node": bad_nodes})
            for call in (tree.node_of, tree.path_of):
                check_refusals(self, call, {"queue": 0}, {"queue": bad_queues})
            check_refusals(self, tree.meet_of, {"one": 0, "other": 0}, {"one": bad_nodes, "other": bad_nodes})
            check_refusals(self, tree.lies_in, {"node": 0, "top": 0}, {"node": bad_nodes, "top": bad_nodes})
        tree = ShapeTree(TWO)
        bad_nodes = NOT_NUMBERS + [3]
        check_refusals(self, tree.toward, {"node": 0, "down": 1}, {"node": bad_nodes, "down": bad_nodes + [0]})

    def test_it_never_changes(self):
        tree = ShapeTree(LONG)
        before = [tree.path_of(queue) for queue in range(3)]
        raised(tree.toward, 3, 0)
        raised(tree.bough_of, 9)
        self.assertEqual([tree.path_of(queue) for queue in range(3)], before)


if __name__ == "__main__":
    unittest.main()
