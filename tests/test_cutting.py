"""[18], [19] and their consequences in [20]: cuts, and lists of shapes."""

import random
import unittest

from nextbough.clans import clans_of
from nextbough.cutting import contracted, kept_queues, replaced_bough, struck
from nextbough.plainforms import plain_form
from nextbough.shapekinds import is_plain, queues_of
from nextbough.shapelists import count_shapes, list_shapes
from nextbough.shapetexts import shape_text
from nextbough.turnings import are_turns, turned_form
from support import (COMB, FLAT, LONG, NOT_COUNTS, NOT_NUMBERS, NOT_SHAPES, PAIRS, SIX, THREE, TWO, Nodes,
                     check_refusals, plain_shapes, raised, sample_shapes)

CASES = sample_shapes(queues=12)


def struck_by_words(form, queue):
    """Without the queue, and without forks that then have no queue."""
    if form == ():
        return None
    parts, low = [], 0
    for kid in form:
        many = queues_of(kid)
        part = struck_by_words(kid, queue - low) if low <= queue < low + many else kid
        parts.append(part)
        low += many
    left = tuple(part for part in parts if part is not None)
    return left or None


class CuttingTest(unittest.TestCase):
    def test_examples(self):
        self.assertEqual(kept_queues(COMB, (0, 1, 3)), (((), ()), ()))
        self.assertEqual(struck(LONG, 2), ((((), ()),),))
        self.assertEqual(contracted(COMB, 1), (((), ()), (), ()))
        self.assertEqual(replaced_bough(TWO, 1, TWO), (((), ()), ()))

    def test_struck(self):
        self.assertEqual(struck(TWO, 0), ((),))
        self.assertEqual(struck((((),), ()), 0), ((),))
        self.assertEqual(struck(LONG, 0), ((((),),), ()))
        for form in CASES:
            for queue in range(queues_of(form)):
                if queues_of(form) > 1:
                    self.assertEqual(struck(form, queue), struck_by_words(form, queue))
                else:
                    self.assertEqual(raised(struck, form, queue), ("NotUsable", "queue", -1))

    def test_kept_queues(self):
        chance = random.Random(5)
        self.assertEqual(kept_queues((), (0,)), ())
        self.assertEqual(kept_queues(((),), (0,)), ())
        self.assertEqual(kept_queues(PAIRS, (3,)), ())
        self.assertEqual(kept_queues(PAIRS, (1, 2)), TWO)
        for form in CASES:
            many = queues_of(form)
            kept = tuple(sorted(chance.sample(range(many), chance.randint(1, many))))
            left = form
            for queue in reversed(range(many)):
                if queue not in kept:
                    left = struck_by_words(left, queue)
            self.assertEqual(kept_queues(form, kept), plain_form(left))
            self.assertEqual(kept_queues(form, tuple(range(many))), plain_form(form))

    def test_contracted(self):
        self.assertEqual(contracted(LONG, 1), (((), ()), ()))
        self.assertEqual(contracted(LONG, 2), (((), ()), ()))
        self.assertEqual(contracted(((), TWO, ()), 2), FLAT)
        self.assertEqual(contracted((((),),), 1), ((),))
        four = ((),) * 4
        self.assertEqual(contracted(four + (TWO,), 5), SIX)
        self.assertEqual(raised(contracted, four + ((), TWO), 6), ("NotUsable", "fork", -1))
        self.assertEqual(contracted(four + ((), ((),)), 6), SIX)
        self.assertEqual(contracted((SIX,), 1), SIX)
        self.assertEqual(raised(contracted, (SIX, ()), 1), ("NotUsable", "fork", -1))

    def test_contracted_by_the_words(self):
        for form in CASES:
            nodes = Nodes(form)
            for node in range(len(nodes.shapes)):
                told = raised(contracted, form, node)
                if node == 0 or not nodes.kids[node]:
                    self.assertEqual(told, ("NotUsable", "fork", -1))
                    continue
                parent = nodes.above[node][-1]
                together = len(nodes.kids[parent]) - 1 + len(nodes.kids[node])
                self.assertEqual(told is None, together <= 6)
                if told is None:
                    left = Nodes(contracted(form, node))
                    # The nodes keep their sequence, so those behind the fork just move up by one.
                    held = nodes.held[:node] + nodes.held[node + 1:]
                    self.assertEqual(left.held, held)
                    above = [tuple(top - (top > node) for top in row if top != node) for row in nodes.above]
                    self.assertEqual(left.above, above[:node] + above[node + 1:])

    def test_replaced_bough(self):
        self.assertEqual(replaced_bough(LONG, 0, FLAT), FLAT)
        self.assertEqual(replaced_bough(LONG, 2, ()), (((),), ()))
        self.assertEqual(replaced_bough((), 0, ((),)), ((),))
        for form in CASES:
            nodes = Nodes(form)
            for node in range(len(nodes.shapes)):
                made = Nodes(replaced_bough(form, node, LONG))
                size = len(Nodes(nodes.shapes[node]).shapes)
                self.assertEqual(made.shapes[node], LONG)
                self.assertEqual(made.shapes[node + 6:], nodes.shapes[node + size:])
                self.assertEqual(made.above[:node + 1], nodes.above[:node + 1])
                self.assertEqual(replaced_bough(form, node, nodes.shapes[node]), form)

    def test_wrong_parameters(self):
        check_refusals(self, kept_queues, {"form": TWO, "queues": (0,)}, {
            "form": NOT_SHAPES,
            "queues": [None, True, 0, "", [], [0], (), (True,), (False,), (0, 0), (1, 0), (2,), (-1,), ("0",), ((0,),)],
        })
        check_refusals(self, struck, {"form": TWO, "queue": 0}, {"form": NOT_SHAPES, "queue": NOT_NUMBERS + [2]})
        check_refusals(self, contracted, {"form": COMB, "fork": 1}, {
            "form": NOT_SHAPES, "fork": NOT_NUMBERS + [0, 3, 4, 5, 6, 7],
        })
        check_refusals(self, replaced_bough, {"form": TWO, "node": 0, "other": ()}, {
            "form": NOT_SHAPES, "node": NOT_NUMBERS + [3], "other": NOT_SHAPES,
        })
        self.assertEqual(raised(struck, (), 1), ("NotUsable", "queue", -1))


class ShapeListsTest(unittest.TestCase):
    def test_examples(self):
        self.assertEqual((list_shapes(3), count_shapes(5)), ((((), ((), ())), ((), (), ())), 12))

    def test_lists_are_all_turned_forms(self):
        for many in range(1, 7):
            turned = {turned_form(form) for form in plain_shapes(many)}
            self.assertEqual(list_shapes(many), tuple(sorted(turned, key=shape_text)))
            self.assertEqual(count_shapes(many), len(turned))

    def test_seven(self):
        shapes = list_shapes(7)
        texts = [shape_text(form) for form in shapes]
        self.assertEqual(texts, sorted(set(texts)))
        for form in shapes:
            self.assertTrue(is_plain(form) and turned_form(form) == form and queues_of(form) == 7)
        self.assertEqual((len(shapes), count_shapes(7)), (89, 89))

    def test_counts(self):
        # Without the bound of six children these are 1, 1, 2, 5, 12, 33, 90, 261, 766 (rooted trees by leaves).
        counts = [count_shapes(many) for many in range(1, 15)]
        self.assertEqual(counts[:9], [1, 1, 2, 5, 12, 33, 89, 258, 756])
        # Three shapes of eight queues have a fork of more than six children.
        self.assertEqual(261 - counts[7], 3)
        for many in range(1, 15):
            self.assertEqual(counts[many - 1], count_by_partitions(many))

    def test_wrong_parameters(self):
        for call in (list_shapes, count_shapes):
            check_refusals(self, call, {"many": 2}, {"many": NOT_COUNTS})
        self.assertEqual((list_shapes(1), count_shapes(1)), (((),), 1))
        self.assertEqual((list_shapes(many=2), count_shapes(many=2)), ((TWO,), 1))


def count_by_partitions(many, known={1: 1}):
    """How many plain turned shapes there are, by the sizes of the root's children."""
    if many not in known:
        total = 0
        for sizes in partitions(many, many - 1, 6):
            ways = 1
            for size in set(sizes):
                times, kinds = sizes.count(size), count_by_partitions(size)
                for step in range(times):
                    ways = ways * (kinds + step)
                for step in range(times):
                    ways //= step + 1
            total += ways
        known[many] = total
    return known[many]


def partitions(total, greatest, parts):
    if total == 0:
        yield []
    elif parts > 0:
        for part in range(min(total, greatest), 0, -1):
            for rest in partitions(total - part, part, parts - 1):
                yield [part] + rest


class ConsequencesTest(unittest.TestCase):
    def test_clans_of_kept_queues(self):
        chance = random.Random(6)
        for form in CASES:
            many = queues_of(form)
            kept = tuple(sorted(chance.sample(range(many), chance.randint(1, many))))
            common = {tuple(kept.index(queue) for queue in clan if queue in kept) for clan in clans_of(form)}
            self.assertEqual(clans_of(kept_queues(form, kept)), tuple(sorted(c for c in common if len(c) > 1)))

    def test_struck_and_kept(self):
        for form in CASES:
            many = queues_of(form)
            for queue in range(many):
                if many > 1:
                    others = tuple(other for other in range(many) if other != queue)
                    self.assertEqual(plain_form(struck(form, queue)), kept_queues(form, others))

    def test_clans_of_contracted(self):
        for form in sample_shapes(plain=True, queues=12):
            nodes = Nodes(form)
            for fork in nodes.forks():
                if raised(contracted, form, fork) is None:
                    left = [clan for clan in clans_of(form) if clan != tuple(nodes.held[fork])]
                    self.assertEqual(clans_of(contracted(form, fork)), tuple(left))

    def test_each_plain_shape_is_a_turn_of_one_in_the_list(self):
        for many in range(1, 6):
            for form in plain_shapes(many):
                self.assertEqual(len([one for one in list_shapes(many) if are_turns(form, one)]), 1)
        self.assertTrue(are_turns(THREE, ((), TWO)))


if __name__ == "__main__":
    unittest.main()
