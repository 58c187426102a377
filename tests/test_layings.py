"""[29] to [33] and what [37] says of them: layings, masks, costs, counts, numbers."""

import itertools
import random
import unittest

from nextbough.layingcounts import count_begun, count_layings
from nextbough.layingkinds import is_laying, top_of
from nextbough.layingnumbers import layings_from, nth_laying, number_of_laying
from nextbough.leastlayings import least_laying
from nextbough.packing import can_lay, greatest_masks
from nextbough.plainforms import plain_form
from nextbough.shapekinds import is_shape
from support import (COMB, FLAT, LONG, NOT_COUNTS, NOT_NUMBERS, NOT_PLAIN, NOT_SHAPES, PAIRS, SIX, THREE, TWO, Nodes,
                     check_refusals, listed_layings, plain_shapes, raised, random_shape, same_kinds)

EIGHT = ((0, 1, 2), (0, 1, 3), (0, 2, 3), (1, 0, 2), (1, 0, 3), (1, 2, 3), (2, 0, 3), (2, 1, 3))


def pairs(many=120, seed=21):
    """Small plain shapes with chips, and all layings of each."""
    chance = random.Random(seed)
    named = [((), ()), ((), ((),)), ((), LONG), (TWO, ()), (TWO, LONG), (THREE, COMB), (THREE, PAIRS), (FLAT, PAIRS),
             (FLAT, COMB), (FLAT, FLAT), (PAIRS, COMB), (PAIRS, FLAT), (PAIRS, PAIRS), (TWO, ((TWO,), ((),)))]
    found = []
    for _ in range(many):
        plain = random_shape(chance, chance.randint(1, 5), True)
        named.append((plain, random_shape(chance, chance.randint(1, 6), False)))
    for plain, chip in named:
        found.append((plain, chip, listed_layings(plain, chip)))
    return found


PAIRS_WITH_LAYINGS = pairs()


def bushy(many):
    """A plain shape with that many queues and forks of six where they can be."""
    if many <= 6:
        return ((),) * many if many > 1 else ()
    return ((),) * 5 + (bushy(many - 5),)


def halved(many):
    return () if many == 1 else (halved(many // 2), halved(many - many // 2))


def combed(many):
    return () if many == 1 else (combed(many - 1), ())


# A plain shape may have sixteen queues, a chip twenty-four.
LARGE = [bushy(16), halved(16), combed(13), (halved(4),) * 4, (SIX, TWO, SIX, TWO)]
CHIPS = [bushy(24), halved(24), combed(13), (halved(4),) * 6, (SIX,) * 4, ((((halved(12),),),), (SIX, (SIX,)))]


class LayingKindsTest(unittest.TestCase):
    def test_examples(self):
        self.assertIs(is_laying(THREE, COMB, (0, 2, 1)), False)
        self.assertEqual(top_of(THREE, COMB, (0, 2, 3), 1), 1)

    def test_the_eight_layings(self):
        found = [images for images in itertools.permutations(range(4), 3) if is_laying(THREE, COMB, images)]
        self.assertEqual(tuple(found), EIGHT)
        flat = [images for images in itertools.permutations(range(4)) if is_laying(FLAT, PAIRS, images)]
        self.assertEqual(len(flat), 24)

    def test_by_the_words(self):
        for plain, chip, layings in PAIRS_WITH_LAYINGS:
            many = len(Nodes(chip).leaves)
            for images in itertools.permutations(range(many), len(Nodes(plain).leaves)):
                self.assertIs(is_laying(plain, chip, images), images in layings)

    def test_tops(self):
        for plain, chip, layings in PAIRS_WITH_LAYINGS:
            small, large = Nodes(plain), Nodes(chip)
            for images in layings[:5]:
                for node, held in enumerate(small.held):
                    top = large.meet([images[queue] for queue in held])
                    self.assertEqual(top_of(plain, chip, images, node), top)

    def test_tops_on_chips_with_forks_of_one_child(self):
        self.assertEqual([top_of(TWO, LONG, (1, 0), node) for node in range(3)], [2, 4, 3])
        self.assertEqual([top_of(TWO, LONG, (2, 0), node) for node in range(3)], [0, 5, 3])
        self.assertEqual(top_of(plain=(), chip=((((),),),), images=(0,), node=0), 3)

    def test_other_values_are_no_layings(self):
        for thing in (None, True, 0, "01", "", [], [0, 1], (), (0,), (0, 1, 2), (0, 0), (0, 3), (-1, 0), (True, 0),
                      (0, False), (0, None), ("0", "1"), ((0,), (1,)), ([0], 1), (0, 2 ** 80)):
            self.assertIs(is_laying(TWO, LONG, thing), False, thing)
        for thing in ((False,), [0], (1,), 0):
            self.assertIs(is_laying((), (), thing), False)
        self.assertIs(is_laying((), (), (0,)), True)
        self.assertIs(is_laying(TWO, (), (0, 0)), False)
        self.assertIs(is_laying(TWO, (), (0, 1)), False)
        self.assertIs(is_laying(plain=TWO, chip=TWO, thing=(1, 0)), True)

    def test_wrong_parameters(self):
        check_refusals(self, lambda plain, chip: is_laying(plain, chip, None), {"plain": TWO, "chip": LONG},
                       {"plain": NOT_PLAIN, "chip": NOT_SHAPES})
        check_refusals(self, top_of, {"plain": THREE, "chip": COMB, "images": (0, 1, 2), "node": 0}, {
            "plain": NOT_PLAIN, "chip": NOT_SHAPES,
            "images": [None, True, 0, "", [], [0, 1, 2], (), (0, 1), (0, 1, 4), (0, 1, 1), (0, 2, 1), (False, 1, 2)],
            "node": NOT_NUMBERS + [5],
        })


def can_lie(plain, chip, fork, children, node):
    """Whether these children of the fork can lie in the node, by the words of [30]."""
    small, large = Nodes(plain), Nodes(chip)
    kids = [small.kids[fork][child] for child in children]
    queues = [queue for kid in kids for queue in small.held[kid]]
    forks = [inner for inner in small.forks() for kid in kids if kid == inner or kid in small.above[inner]]
    for images in itertools.permutations(large.held[node], len(queues)):
        sent = dict(zip(queues, images))
        if all(
            set(images) & set(large.held[large.meet([sent[queue] for queue in small.held[inner]])])
            == {sent[queue] for queue in small.held[inner]}
            for inner in forks
        ):
            return True
    return False


class PackingTest(unittest.TestCase):
    def test_examples(self):
        self.assertEqual(greatest_masks(THREE, PAIRS, 0, 1), (1, 2))
        self.assertEqual(greatest_masks(FLAT, TWO, 0, 0), (3, 5, 6, 9, 10, 12))
        self.assertIs(can_lay(PAIRS, COMB), False)
        self.assertIs(can_lay(PAIRS, FLAT), False)
        for chip in (PAIRS, COMB, FLAT):
            self.assertIs(can_lay(FLAT, chip), True)

    def test_masks_by_the_words(self):
        for plain, chip, _ in PAIRS_WITH_LAYINGS[:70]:
            small, large = Nodes(plain), Nodes(chip)
            for fork in small.forks():
                children = range(len(small.kids[fork]))
                for node in range(len(large.shapes)):
                    lying = [set(some) for many in range(len(children) + 1)
                             for some in itertools.combinations(children, many)
                             if can_lie(plain, chip, fork, some, node)]
                    greatest = [sum(2 ** child for child in some) for some in lying
                                if not any(some < other for other in lying)]
                    self.assertEqual(greatest_masks(plain, chip, fork, node), tuple(sorted(greatest)))

    def test_masks_at_a_queue(self):
        mixed = ((), TWO, (), TWO)
        self.assertEqual(greatest_masks(mixed, TWO, 0, 1), (1, 4))
        self.assertEqual(greatest_masks(PAIRS, TWO, 0, 1), (0,))
        self.assertEqual(greatest_masks(SIX, (), 0, 0), (1, 2, 4, 8, 16, 32))
        self.assertEqual(greatest_masks(PAIRS, (((),), ()), 0, 1), (0,))
        self.assertEqual(greatest_masks(plain=mixed, chip=LONG, fork=0, node=0), (3, 5, 6, 9, 12))
        self.assertEqual(greatest_masks(mixed, ((TWO, ()), TWO), 0, 0), (7, 11, 13, 14))

    def test_can_lay_by_a_listing(self):
        for plain, chip, layings in PAIRS_WITH_LAYINGS:
            self.assertIs(can_lay(plain, chip), bool(layings))

    def test_a_queue_can_be_laid_on_every_chip(self):
        for chip in ((), ((),), COMB, (SIX,) * 4):
            self.assertIs(can_lay(plain=(), chip=chip), True)

    def test_sixteen_queues_on_twenty_four(self):
        for plain in LARGE:
            self.assertIs(can_lay(plain, plain), True)
            for chip in CHIPS:
                self.assertIs(can_lay(plain, chip), count_layings(plain, chip) > 0)
                for fork in Nodes(plain).forks():
                    for mask in greatest_masks(plain, chip, fork, 0):
                        self.assertTrue(0 <= mask < 64)

    def test_wrong_parameters(self):
        shapes = {"plain": NOT_PLAIN, "chip": NOT_SHAPES}
        for call in (can_lay, count_layings):
            check_refusals(self, call, {"plain": TWO, "chip": LONG}, shapes)
        check_refusals(self, greatest_masks, {"plain": THREE, "chip": LONG, "fork": 1, "node": 5},
                       dict(shapes, fork=NOT_NUMBERS + [2, 3, 4, 5], node=NOT_NUMBERS + [6]))
        self.assertEqual(raised(greatest_masks, (), (), 0, 0), ("NotUsable", "fork", -1))


class LeastLayingsTest(unittest.TestCase):
    def test_example(self):
        self.assertEqual(least_laying(THREE, COMB, (1, 2, 0)), (7, (0, 2, 3)))

    def test_by_a_listing(self):
        chance = random.Random(5)
        for plain, chip, layings in PAIRS_WITH_LAYINGS:
            small, large = Nodes(plain), Nodes(chip)
            depths = [len(large.above[leaf]) for leaf in large.leaves]
            for most in (0, 1, 3, 1000):
                weights = tuple(chance.randint(0, most) for _ in small.leaves)
                costs = [(sum(weight * depths[image] for weight, image in zip(weights, images)), images)
                         for images in layings]
                if costs:
                    self.assertEqual(least_laying(plain, chip, weights), min(costs))
                else:
                    self.assertEqual(raised(least_laying, plain, chip, weights), ("NoLaying",))

    def test_of_several_the_least_images(self):
        self.assertEqual(least_laying(FLAT, PAIRS, (0, 0, 0, 0)), (0, (0, 1, 2, 3)))
        self.assertEqual(least_laying(TWO, COMB, (0, 5)), (5, (0, 3)))
        self.assertEqual(least_laying((), LONG, (0,)), (0, (0,)))
        self.assertEqual(least_laying((), LONG, (1,)), (1, (2,)))
        self.assertEqual(least_laying(plain=(), chip=(), weights=(1000,)), (0, (0,)))

    def test_large_ones(self):
        for plain in LARGE:
            many = len(Nodes(plain).leaves)
            weights = tuple((place * 7) % 11 for place in range(many))
            for chip in CHIPS:
                if not can_lay(plain, chip):
                    self.assertEqual(raised(least_laying, plain, chip, weights), ("NoLaying",))
                    continue
                cost, images = least_laying(plain, chip, weights)
                self.assertIs(is_laying(plain, chip, images), True)
                large = Nodes(chip)
                depths = [len(large.above[leaf]) for leaf in large.leaves]
                self.assertEqual(cost, sum(weight * depths[image] for weight, image in zip(weights, images)))
                first = least_laying(plain, chip, (0,) * many)
                self.assertEqual(first, (0, nth_laying(plain, chip, 0)))

    def test_wrong_parameters(self):
        check_refusals(self, least_laying, {"plain": TWO, "chip": LONG, "weights": (0, 1)}, {
            "plain": NOT_PLAIN, "chip": NOT_SHAPES,
            "weights": [None, True, 0, "", [], [0, 1], (), (1,), (1, 1, 1), (True, 0), (0, False), (-1, 0), (0, None),
                        ("0", 0), ((), ())],
        })
        # What is wrong with a parameter comes ahead of NoLaying.
        self.assertEqual(raised(least_laying, PAIRS, COMB, (0, 0)), ("NotUsable", "weights", -1))
        self.assertEqual(raised(least_laying, PAIRS, COMB, (0,) * 4), ("NoLaying",))


class CountsTest(unittest.TestCase):
    def test_examples(self):
        self.assertEqual(count_layings(THREE, COMB), 8)
        self.assertEqual((count_begun(THREE, COMB, (0,)), count_begun(THREE, COMB, (0, 0))), (3, 0))

    def test_by_a_listing(self):
        for plain, chip, layings in PAIRS_WITH_LAYINGS:
            self.assertEqual(count_layings(plain, chip), len(layings))
            self.assertEqual(count_layings(plain, plain_form(chip)), len(layings))
            many, queues = len(Nodes(plain).leaves), len(Nodes(chip).leaves)
            for length in range(min(many, 2) + 1):
                for begun in itertools.product(range(queues), repeat=length):
                    expected = len([images for images in layings if images[:length] == begun])
                    self.assertEqual(count_begun(plain, chip, begun), expected)
            for images in layings[:3]:
                self.assertEqual(count_begun(plain, chip, images), 1)
            self.assertEqual(count_begun(plain, chip, (0,) * many), int(many == 1))

    def test_sums_over_the_next_queue(self):
        for plain in LARGE:
            many = len(Nodes(plain).leaves)
            for chip in CHIPS[:3]:
                total = count_layings(plain, chip)
                self.assertEqual(count_begun(plain, chip, ()), total)
                begun = nth_laying(plain, chip, total // 3)[:many // 2] if total else (0, 1)
                queues = len(Nodes(chip).leaves)
                self.assertEqual(count_begun(plain, chip, begun),
                                 sum(count_begun(plain, chip, begun + (queue,)) for queue in range(queues)))

    def test_many_layings(self):
        # A fork of queues alone can be laid in each sequence of so many of the queues of a chip.
        self.assertEqual(count_layings(((),) * 5, (SIX,) * 4), 24 * 23 * 22 * 21 * 20)
        self.assertEqual(count_layings(PAIRS, PAIRS), 8)
        self.assertEqual(count_layings((), (SIX,) * 4), 24)
        self.assertEqual(count_layings(plain=TWO, chip=()), 0)

    def test_wrong_parameters(self):
        check_refusals(self, count_begun, {"plain": TWO, "chip": LONG, "begun": (1,)}, {
            "plain": NOT_PLAIN, "chip": NOT_SHAPES,
            "begun": [None, True, 0, "", [], [1], (0, 1, 2), (3,), (True,), (-1,), (None,), ("0",), (0, False)],
        })
        self.assertEqual(count_begun(plain=TWO, chip=LONG, begun=(2, 2)), 0)


class NumbersTest(unittest.TestCase):
    def test_examples(self):
        self.assertEqual(nth_laying(THREE, COMB, 5), (1, 2, 3))
        self.assertEqual(layings_from(THREE, COMB, 6, 5), ((2, 0, 3), (2, 1, 3)))
        self.assertEqual(layings_from(THREE, COMB, 0, 8), EIGHT)

    def test_by_a_listing(self):
        chance = random.Random(9)
        for plain, chip, layings in PAIRS_WITH_LAYINGS:
            last = len(layings) - 1
            for number in {0, 1, last, last // 2}:
                if 0 <= number <= last:
                    self.assertEqual(nth_laying(plain, chip, number), layings[number])
                    self.assertEqual(number_of_laying(plain, chip, layings[number]), number)
            for number in (last + 1, last + 2, 2 ** 90):
                self.assertEqual(raised(nth_laying, plain, chip, number), ("NotUsable", "number", -1))
                self.assertEqual(layings_from(plain, chip, number, 3), ())
            for _ in range(3):
                number, many = chance.randint(0, last + 3), chance.randint(1, 40)
                self.assertEqual(layings_from(plain, chip, number, many), tuple(layings[number:number + many]))

    def test_large_ones(self):
        for plain in LARGE:
            for chip in CHIPS:
                total = count_layings(plain, chip)
                self.assertEqual(raised(nth_laying, plain, chip, total), ("NotUsable", "number", -1))
                self.assertEqual(layings_from(plain, chip, total, 40), ())
                for number in {0, total // 7, total - 1} if total else ():
                    images = nth_laying(plain, chip, number)
                    self.assertIs(is_laying(plain, chip, images), True)
                    self.assertEqual(number_of_laying(plain, chip, images), number)
                    rows = layings_from(plain, chip, number, 3)
                    self.assertEqual(rows, tuple(nth_laying(plain, chip, at)
                                                 for at in range(number, min(number + 3, total))))
                    self.assertEqual(list(rows), sorted(rows))

    def test_forty(self):
        plain, chip = LARGE[1], CHIPS[1]
        rows = layings_from(plain, chip, 10 ** 6, 40)
        self.assertEqual([number_of_laying(plain, chip, images) for images in rows],
                         list(range(10 ** 6, 10 ** 6 + 40)))

    def test_wrong_parameters(self):
        shapes = {"plain": NOT_PLAIN, "chip": NOT_SHAPES}
        good = {"plain": THREE, "chip": COMB}
        check_refusals(self, nth_laying, dict(good, number=7), dict(shapes, number=NOT_NUMBERS + [8]))
        check_refusals(self, layings_from, dict(good, number=7, many=1),
                       dict(shapes, number=NOT_NUMBERS, many=NOT_COUNTS))
        check_refusals(self, number_of_laying, dict(good, images=(0, 1, 2)), dict(
            shapes, images=[None, True, 0, [], (), [0, 1, 2], (0, 1), (0, 2, 1), (0, 1, 4), (False, 1, 2), (0, 0, 1)]))


class ConsequencesTest(unittest.TestCase):
    def test_a_chip_has_the_layings_of_its_plain_form(self):
        for plain, chip, layings in PAIRS_WITH_LAYINGS:
            bare = plain_form(chip)
            for images in layings[:4]:
                self.assertIs(is_laying(plain, bare, images), True)
            if layings:
                self.assertEqual(layings_from(plain, bare, 0, 40), tuple(layings[:40]))
            self.assertIs(can_lay(plain, bare), bool(layings))

    def test_there_is_a_laying_exactly_if_boughs_hold_boughs(self):
        """(G1): for each bough some bough of the chip holds its images and no other image."""
        for plain, chip, layings in PAIRS_WITH_LAYINGS[:60]:
            small, large = Nodes(plain), Nodes(chip)
            found = any(
                all(any({image for image in images if image in held} == {images[q] for q in bough}
                        for held in large.held) for bough in small.held)
                for images in itertools.permutations(range(len(large.leaves)), len(small.leaves))
            )
            self.assertIs(found, bool(layings))

    def test_laid_one_after_the_other(self):
        """(G5): what can be laid on what can be laid on a chip can be laid on this."""
        shapes = [form for many in range(1, 5) for form in plain_shapes(many)]
        for one, two, three in itertools.product(shapes, repeat=3):
            if can_lay(one, two) and can_lay(two, three):
                self.assertTrue(can_lay(one, three))

    def test_kinds_of_results(self):
        self.assertTrue(same_kinds(least_laying(TWO, TWO, (1, 1)), (2, (0, 1))))
        self.assertTrue(same_kinds(greatest_masks(TWO, TWO, 0, 0), (3,)))
        self.assertTrue(same_kinds(nth_laying(TWO, TWO, 1), (1, 0)))
        self.assertTrue(same_kinds(layings_from((), TWO, 0, 9), ((0,), (1,))))
        self.assertTrue(same_kinds(number_of_laying(TWO, TWO, (1, 0)), 1))
        self.assertTrue(all(is_shape(chip) for chip in CHIPS))


if __name__ == "__main__":
    unittest.main()
