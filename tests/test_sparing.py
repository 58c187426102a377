"""[36] and [37] of spared_chip: deed by deed, by the words."""

import random
import unittest

from nextbough.cutting import contracted, struck
from nextbough.packing import can_lay
from nextbough.sparing import spared_chip
from support import (COMB, FLAT, LONG, NOT_PLAIN, NOT_SHAPES, PAIRS, SIX, THREE, TWO, Nodes, check_refusals, raised,
                     random_shape, same_kinds)


def deeds_by_words(form):
    nodes = Nodes(form)
    many = len(nodes.leaves)
    if many >= 2:
        for queue in range(many - 1, -1, -1):
            yield ("strike", queue), struck(form, queue)
    for fork in range(len(nodes.shapes) - 1, -1, -1):
        if nodes.kids[fork] and raised(contracted, form, fork) is None:
            yield ("contract", fork), contracted(form, fork)


def spared_by_words(chip, plains):
    left, done = chip, []
    while True:
        for deed, given in deeds_by_words(left):
            if all(can_lay(plain, given) for plain in plains):
                left = given
                done.append(deed)
                break
        else:
            break
    bars = tuple(
        (deed, next(place for place, plain in enumerate(plains) if not can_lay(plain, given)))
        for deed, given in deeds_by_words(left)
    )
    return left, tuple(done), bars


class SparingTest(unittest.TestCase):
    def test_example(self):
        self.assertEqual(
            spared_chip(LONG, (TWO,)),
            (((), ()), (("strike", 2), ("contract", 2), ("contract", 1)), ((("strike", 1), 0), (("strike", 0), 0))),
        )

    def test_one_queue(self):
        self.assertEqual(spared_chip((), ((),)), ((), (), ()))
        # A root with one child stays: only forks beneath it are contracted.
        self.assertEqual(spared_chip(((((),),),), ((),)), (((),), (("contract", 2), ("contract", 1)), ()))
        self.assertEqual(spared_chip(chip=COMB, plains=((), ())), spared_by_words(COMB, ((), ())))

    def test_a_contraction_that_raises_is_no_deed(self):
        # The root has six children, so none beneath it can be contracted as long as no queue is struck.
        chip = ((), (), (), (), (), ((), ()))
        plain = ((), (), (), (), (), ((), ()))
        left, deeds, bars = spared_chip(chip, (plain,))
        self.assertEqual((left, deeds), (chip, ()))
        self.assertEqual(bars, tuple((("strike", queue), 0) for queue in range(6, -1, -1)))

    def test_the_sequence_begins_anew_behind_each_deed(self):
        # A strike that becomes possible again stands ahead of the contractions behind it.
        for chip, plains in ((COMB, (TWO,)), (PAIRS, (FLAT,)), ((LONG, PAIRS), (THREE, TWO))):
            self.assertEqual(spared_chip(chip, plains), spared_by_words(chip, plains))

    def test_bars_name_the_first_plain(self):
        left, deeds, bars = spared_chip(COMB, (TWO, THREE))
        self.assertEqual({place for _, place in bars}, {1})
        left, deeds, bars = spared_chip(COMB, (THREE, TWO))
        self.assertEqual({place for _, place in bars}, {0})

    def test_samples_by_the_words(self):
        chance = random.Random(21)
        done = 0
        while done < 60:
            chip = random_shape(chance, chance.randint(1, 8), False)
            plains = tuple(
                random_shape(chance, chance.randint(1, 5), True) for _ in range(chance.randint(1, 3))
            )
            if not all(can_lay(plain, chip) for plain in plains):
                self.assertEqual(raised(spared_chip, chip, plains), ("NoLaying",))
                continue
            done += 1
            found = spared_chip(chip, plains)
            self.assertTrue(same_kinds(found, spared_by_words(chip, plains)), (chip, plains))
            # [37]: the deeds lead from the chip to what is left.
            form = chip
            for word, at in found[1]:
                form = struck(form, at) if word == "strike" else contracted(form, at)
            self.assertEqual(form, found[0])
            for plain in plains:
                self.assertTrue(can_lay(plain, form))

    def test_a_great_chip(self):
        chip = (((((), ()), ((), ())), (((), ()), ((), ()))), (((), ()), ((), ())))
        for _ in range(3):
            chip = (chip,)
        self.assertEqual(len(Nodes(chip).leaves), 12)
        left, deeds, bars = spared_chip(chip, (PAIRS, COMB, FLAT, THREE, TWO, ()))
        self.assertTrue(can_lay(PAIRS, left) and can_lay(COMB, left))
        self.assertEqual((left, deeds, bars), spared_by_words(chip, (PAIRS, COMB))[:2] + (bars,))

    def test_no_laying(self):
        self.assertEqual(raised(spared_chip, COMB, (TWO, PAIRS)), ("NoLaying",))
        self.assertEqual(raised(spared_chip, (), (TWO,)), ("NoLaying",))
        self.assertEqual(raised(spared_chip, TWO, (SIX,)), ("NoLaying",))

    def test_wrong_parameters(self):
        bad = [None, True, 0, "", [], (), [TWO], (LONG,), (TWO, LONG), (TWO, None), (TWO, [()])]
        bad += [(thing,) for thing in NOT_PLAIN if thing != ()]
        check_refusals(self, spared_chip, {"chip": LONG, "plains": (TWO,)}, {"chip": NOT_SHAPES, "plains": bad})
        # A wrong place stands ahead of a chip that carries none of them.
        self.assertEqual(raised(spared_chip, (), (TWO, None)), ("NotUsable", "plains", -1))


if __name__ == "__main__":
    unittest.main()
