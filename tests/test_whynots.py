"""[34] to [36] and what [37] says of them: tables, full trees, comparing."""

import itertools
import unittest

from nextbough.comparing import compare_shapes
from nextbough.fulltrees import all_carrying, full_tree, height_for, least_full, queues_of_all
from nextbough.packing import can_lay, greatest_masks
from nextbough.plainforms import plain_form
from nextbough.shapekinds import queues_of
from nextbough.shapelists import list_shapes
from nextbough.turnings import are_turns
from nextbough.whynots import lets_why_not, why_not
from support import (COMB, FLAT, LONG, NOT_COUNTS, NOT_NUMBERS, NOT_PLAIN, NOT_SHAPES, PAIRS, SIX, THREE, TWO, Nodes,
                     check_refusals, plain_shapes, raised, same_kinds, sample_shapes)

NOT_WIDTHS = NOT_NUMBERS + [0, 1, 7, -2]


def table_by_words(plain, chip):
    return tuple((fork, node, greatest_masks(plain, chip, fork, node))
                 for fork in reversed(Nodes(plain).forks())
                 for node in reversed(range(len(Nodes(chip).shapes))))


class WhyNotTest(unittest.TestCase):
    def test_examples(self):
        self.assertEqual(why_not(TWO, ()), ((0, 0, (1, 2)),))
        self.assertEqual(lets_why_not(TWO, (), ((0, 0, (1, 2)),)), 1)

    def test_tables(self):
        chips = sample_shapes(12, queues=7)
        for plain, chip in itertools.product(sample_shapes(12, True, 6), chips):
            table = why_not(plain, chip)
            rows = table_by_words(plain, chip)
            if can_lay(plain, chip):
                self.assertIsNone(table)
                told = ("InvalidPaper", "laid", -1)
                self.assertEqual(raised(lets_why_not, plain, chip, rows), told)
            else:
                self.assertTrue(same_kinds(table, rows))
                self.assertEqual(lets_why_not(plain=plain, chip=chip, table=table), len(rows))

    def test_where_plain_is_a_queue(self):
        for chip in ((), ((),), LONG, COMB):
            self.assertIsNone(why_not((), chip))
            self.assertEqual(raised(lets_why_not, (), chip, ()), ("InvalidPaper", "laid", -1))
            self.assertEqual(raised(lets_why_not, (), chip, ((0, 0, ()),)), ("InvalidPaper", "shape", -1))

    def refuse(self, table, word, at, plain=THREE, chip=((TWO,),)):
        told = ("InvalidPaper", word, at)
        self.assertEqual(raised(lets_why_not, plain, chip, table), told, table)
        self.assertEqual(raised(lets_why_not, plain=plain, chip=chip, table=table), told)

    def test_each_word(self):
        table = why_not(THREE, ((TWO,),))
        # Two forks, and the five nodes of the chip.
        self.assertEqual([row[:2] for row in table],
                         [(fork, node) for fork in (1, 0) for node in (4, 3, 2, 1, 0)])
        for thing in (None, True, 0, "abcdefghij", [], list(table), (), table[:9], table + table[:1]):
            self.refuse(thing, "shape", -1)
        for place, (fork, node, masks) in enumerate(table):
            ahead, behind = table[:place], table[place + 1:]
            for row in (None, True, 0, "abc", [], [fork, node, masks], (), (fork, node), (fork, node, masks, 0),
                        (fork + 1, node, masks), (fork, node + 1, masks), (node + 7, fork, masks),
                        (fork, node, list(masks)), (fork, node, None), (fork, node, masks[0]), (bool(fork), node, masks),
                        ((fork,), node, masks), (fork, None, masks), (fork, node, "1")):
                self.refuse(ahead + (row,) + behind, "row", place)
            for wrong in ((), masks + (64,), masks[1:], masks + masks, (64,), tuple(reversed(masks)) + (0, 0),
                          tuple(str(mask) for mask in masks), ([],), ((),), (None,), (masks,)):
                self.refuse(ahead + ((fork, node, wrong),) + behind, "masks", place)

    def test_true_is_not_one(self):
        table = ((0, 0, (1, 2)),)
        self.refuse(((0, 0, (True, 2)),), "masks", 0, TWO, ())
        self.refuse(((False, 0, (1, 2)),), "row", 0, TWO, ())
        self.refuse(((0, False, (1, 2)),), "row", 0, TWO, ())
        self.assertEqual(lets_why_not(TWO, (), table), 1)
        longer = why_not(TWO, ((),))
        self.assertEqual(longer[0][:2], (0, 1))
        self.refuse(((0, True, longer[0][2]), longer[1]), "row", 0, TWO, ((),))

    def test_two_faults_at_once(self):
        table = why_not(THREE, TWO)
        first, second = table[:2]
        self.refuse(((first[0], first[1], ()), None) + table[2:], "masks", 0, THREE, TWO)
        self.refuse(((first[0], 9, ()), second) + table[2:], "row", 0, THREE, TWO)
        self.refuse((None,), "shape", -1, THREE, TWO)
        right = table_by_words(TWO, TWO)
        self.refuse((None,) + right[1:], "row", 0, TWO, TWO)
        self.refuse(right[:-1] + ((0, 0, ()),), "masks", 2, TWO, TWO)
        self.refuse(right, "laid", -1, TWO, TWO)

    def test_large_tables(self):
        halves = ((((),) * 2,) * 2,) * 2
        plain, chip = (halves, halves), (SIX,) * 4
        table = why_not(plain, chip)
        self.assertEqual(len(table), 15 * 29)
        self.assertEqual(lets_why_not(plain, chip, table), 15 * 29)

    def test_wrong_parameters(self):
        bad = {"plain": NOT_PLAIN, "chip": NOT_SHAPES}
        check_refusals(self, why_not, {"plain": TWO, "chip": TWO}, bad)
        check_refusals(self, lambda plain, chip: lets_why_not(plain, chip, None), {"plain": TWO, "chip": TWO}, bad)


class FullTreesTest(unittest.TestCase):
    HEIGHTS = [(2, 4), (3, 2), (4, 2), (5, 1), (6, 1)]

    def test_examples(self):
        self.assertEqual((height_for(COMB, 2), least_full(COMB), queues_of_all(9)), (3, (2, 3), 23))
        self.assertEqual(all_carrying(4), ((((), ()), ()), ((), ())))

    def test_full_trees(self):
        for width, most in self.HEIGHTS:
            form = ()
            for height in range(most + 1):
                self.assertEqual(full_tree(width, height), form)
                self.assertEqual(queues_of(form), width ** height)
                form = (form,) * width
        self.assertEqual(full_tree(width=2, height=6), ((full_tree(2, 5),) * 2))

    def test_heights_by_what_can_be_laid(self):
        shapes = [form for many in range(1, 9) for form in (list_shapes(many) if many < 8 else [COMB, PAIRS])]
        shapes += [(SIX, ()), (SIX, SIX), ((), PAIRS, THREE), (FLAT,) * 4, (PAIRS, PAIRS, TWO, TWO)]
        for plain in shapes:
            for width, most in self.HEIGHTS:
                least = height_for(plain, width)
                for height in range(most + 1):
                    self.assertIs(can_lay(plain, full_tree(width, height)), least <= height, (plain, width, height))

    def test_heights_by_the_words(self):
        def words(plain, width):
            if plain == ():
                return 0
            total = sum(width ** words(child, width) for child in plain)
            return next(height for height in range(99) if total <= width ** height)

        for plain in sample_shapes(plain=True, queues=16):
            heights = [(width, words(plain, width)) for width in range(2, 7)]
            self.assertEqual([(width, height_for(plain, width)) for width in range(2, 7)], heights)
            self.assertEqual(least_full(plain), min(heights, key=lambda row: (row[0] ** row[1], row[0])))

    def test_ties_between_widths(self):
        self.assertEqual(least_full(()), (2, 0))
        self.assertEqual(least_full(PAIRS), (2, 2))
        self.assertEqual(least_full(FLAT), (2, 2))
        self.assertEqual(least_full(((), (), ())), (3, 1))
        self.assertEqual(least_full(SIX), (6, 1))
        self.assertEqual(height_for(plain=(), width=6), 0)

    def test_shapes_that_carry_all(self):
        for many in range(1, 10):
            carrier = all_carrying(many)
            self.assertEqual(queues_of(carrier), queues_of_all(many))
            for queues in range(1, min(many, 7) + 1):
                for plain in list_shapes(queues):
                    self.assertIs(can_lay(plain, carrier), True)
        self.assertEqual((all_carrying(1), all_carrying(2), all_carrying(3)), ((), TWO, THREE))
        self.assertEqual([queues_of_all(many) for many in range(1, 11)], [1, 2, 3, 5, 7, 10, 13, 18, 23, 30])

    def test_counts_of_many(self):
        sizes = {1: 1}
        for many in range(2, 201):
            sizes[many] = sizes[many - 1] + sizes[many // 2]
            self.assertEqual(queues_of_all(many=many), sizes[many])

    def test_wrong_parameters(self):
        check_refusals(self, full_tree, {"width": 2, "height": 1}, {"width": NOT_WIDTHS, "height": NOT_NUMBERS})
        check_refusals(self, height_for, {"plain": TWO, "width": 2}, {"plain": NOT_PLAIN, "width": NOT_WIDTHS})
        check_refusals(self, least_full, {"plain": TWO}, {"plain": NOT_PLAIN})
        for call in (all_carrying, queues_of_all):
            check_refusals(self, call, {"many": 1}, {"many": NOT_COUNTS})


class ComparingTest(unittest.TestCase):
    def test_examples(self):
        self.assertEqual((compare_shapes(COMB, FLAT), compare_shapes(LONG, THREE)), ("stronger", "alike"))
        self.assertEqual((compare_shapes(FLAT, PAIRS), compare_shapes(PAIRS, COMB)), ("weaker", "apart"))
        self.assertEqual(compare_shapes(one=(), other=((((),),),)), "alike")

    def test_by_what_can_be_laid(self):
        other_way = {"alike": "alike", "apart": "apart", "stronger": "weaker", "weaker": "stronger"}
        words = {(True, True): "alike", (True, False): "stronger", (False, True): "weaker", (False, False): "apart"}
        shapes = sample_shapes(20, queues=9)
        for one, other in itertools.product(shapes, repeat=2):
            left, right = plain_form(one), plain_form(other)
            told = compare_shapes(one, other)
            self.assertEqual(told, words[(can_lay(right, left), can_lay(left, right))])
            self.assertEqual(compare_shapes(other, one), other_way[told])
            self.assertEqual(compare_shapes(left, right), told)

    def test_alike_are_turns(self):
        shapes = [form for many in range(1, 6) for form in plain_shapes(many)][:60]
        for one, other in itertools.product(shapes, repeat=2):
            self.assertIs(compare_shapes(one, other) == "alike", are_turns(one, other))

    def test_wrong_parameters(self):
        check_refusals(self, compare_shapes, {"one": LONG, "other": TWO}, {"one": NOT_SHAPES, "other": NOT_SHAPES})


if __name__ == "__main__":
    unittest.main()
