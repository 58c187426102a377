"""[50]: where a new packet brings about a wished order, by trying all places."""

import itertools
import random
import unittest

from nextbough.keepings import keeping_answers
from nextbough.standings import Standing
from support import (COMB, FLAT, LONG, NOT_NUMBERS, NOT_PACKETS, NOT_STANDINGS, PAIRS, TWO, Nodes, check_refusals,
                     fill, sample_shapes, same_kinds)


def order_of_items(nodes, lines, node=0):
    if not nodes.kids[node]:
        return list(lines[node])
    left = [order_of_items(nodes, lines, kid) for kid in nodes.kids[node]]
    return [left[child].pop(0) for child in lines[node]]


def orders_by_trying(standing, number):
    """For each order that some push can bring about: (queue, places) of all pushes that do."""
    nodes = Nodes(standing.form_of())
    items = [[entry[1] for entry in line] for line in standing.all_lines()]
    found = {}
    for queue in range(len(nodes.leaves)):
        path = nodes.path(queue)
        names = [nodes.kids[node].index(kid) for node, kid in zip(path, path[1:])] + [number]
        for places in itertools.product(*[range(len(items[node]) + 1) for node in path]):
            lines = [list(line) for line in items]
            for node, place, name in zip(path, places, names):
                lines[node].insert(place, name)
            found.setdefault(tuple(order_of_items(nodes, lines)), []).append((queue, places))
    return found


def least_by_trying(rows):
    """For each queue the places that are each as small as can be."""
    by_queue = {}
    for queue, places in rows:
        by_queue.setdefault(queue, []).append(places)
    return tuple((queue, tuple(min(column) for column in zip(*rows))) for queue, rows in sorted(by_queue.items()))


def sample():
    held = Standing(TWO)
    held.push(0, 0, ((0,), (0,)))
    held.push(1, 1, ((2,), (5,)))
    return held


class KeepingTest(unittest.TestCase):
    def test_example(self):
        held = sample()
        self.assertEqual(keeping_answers(held, 2, (0, 2, 1)), ((0, (0, 1)), (1, (1, 0))))
        self.assertEqual(keeping_answers(standing=held, number=2, wish=(1, 2, 0)), ())
        self.assertEqual(held.order(), (0, 1))

    def test_nothing_present(self):
        self.assertEqual(keeping_answers(Standing(LONG), 7, (7,)), ((0, (0, 0, 0, 0)), (1, (0, 0, 0, 0)), (2, (0, 0))))
        self.assertEqual(keeping_answers(Standing(()), 7, (7,)), ((0, (0,)),))

    def test_one_queue(self):
        held = Standing(())
        for number in (4, 2, 9):
            held.push(number, 0, ((),))
        self.assertEqual(keeping_answers(held, 0, (4, 0, 2, 9)), ((0, (1,)),))
        self.assertEqual(keeping_answers(held, 0, (4, 2, 9, 0)), ((0, (3,)),))
        self.assertEqual(keeping_answers(held, 0, (2, 4, 0, 9)), ())

    def test_a_hop(self):
        # A push that changes the sequence of others.
        held = sample()
        self.assertEqual(keeping_answers(held, 2, (2, 1, 0)), ((0, (2, 0)),))
        self.assertEqual(keeping_answers(held, 2, (1, 0, 2)), ((1, (0, 1)),))
        held.push(3, 0, ((3,), (3,)))
        self.assertEqual(held.order(), (0, 1, 3))
        self.assertEqual(keeping_answers(held, 2, (2, 1, 0, 3)), ((0, (2, 0)),))

    def test_by_trying(self):
        chance = random.Random(61)
        reached = 0
        for form in sample_shapes(25, queues=5):
            for pushes, spread in ((1, 1), (3, 1), (4, 3)):
                held = fill(Standing(form), chance, pushes, spread=spread, leaves=0.1)
                if len(Nodes(form).path(0)) > 6 or held.many_present() > 4:
                    continue
                lines = held.all_lines()
                found = orders_by_trying(held, 50)
                for wish in itertools.permutations(list(held.present()) + [50]):
                    told = keeping_answers(held, 50, wish)
                    self.assertTrue(same_kinds(told, least_by_trying(found.get(wish, []))), (form, wish))
                    # The places that are each as small as can be do bring it about.
                    for row in told:
                        self.assertIn(row, found[wish])
                    reached += len(told)
                self.assertEqual(held.all_lines(), lines)
        self.assertGreater(reached, 500)

    def test_ranks_do_not_matter(self):
        one, other = Standing(PAIRS), Standing(PAIRS)
        for number, queue in enumerate((0, 2, 1, 3)):
            one.push(number, queue, ((), (), ()))
            other.push(number, queue, ((number, 5), (number,), (-number,) * 8))
        self.assertEqual(one.order(), other.order())
        for wish in itertools.permutations((0, 1, 2, 3, 9)):
            self.assertEqual(keeping_answers(one, 9, wish), keeping_answers(other, 9, wish))

    def test_many_packets(self):
        held = Standing(COMB)
        nodes = Nodes(COMB)
        for number in range(1500):
            queue = number * 7 % 4
            held.push(number, queue, ((number,),) * len(nodes.path(queue)))
        order = held.order()
        wish = order[:700] + (5000,) + order[700:]
        told = keeping_answers(held, 5000, wish)
        self.assertEqual([queue for queue, _ in told], [0, 1, 2, 3])
        self.assertTrue(all(places[0] <= 700 for _, places in told))

    def test_wrong_parameters(self):
        held = sample()
        wishes = [None, True, 0, "", [], (), (0, 1), (0, 1, 2, 3), [0, 2, 1], (0, 1, 1), (0, 2, 2), (0, 1, 3),
                  (False, 2, 1), (0, 2, True), (0, None, 1), (0, 2, -1), (0, "2", 1), (0, (2,), 1), (0, [2], 1)]
        check_refusals(self, keeping_answers, {"standing": held, "number": 2, "wish": (0, 2, 1)},
                       {"standing": NOT_STANDINGS, "number": NOT_PACKETS + [0, 1], "wish": wishes})
        self.assertEqual(NOT_NUMBERS, NOT_PACKETS[:len(NOT_NUMBERS)])
        self.assertEqual(keeping_answers(Standing(FLAT), 2 ** 60 - 1, (2 ** 60 - 1,))[3], (3, (0, 0)))


if __name__ == "__main__":
    unittest.main()
