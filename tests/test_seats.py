"""[45] and [46]: seats, what is shared and what is wanted, and layings of seats."""

import itertools
import random
import time
import unittest

from nextbough.layingcounts import count_layings
from nextbough.layingkinds import is_laying
from nextbough.layingnumbers import nth_laying
from nextbough.seatlayings import seat_laying
from nextbough.wants import first_broken, first_shared, is_seats
from support import (COMB, FLAT, LONG, NOT_PLAIN, NOT_SHAPES, PAIRS, SIX, THREE, TWO, Nodes, check_refusals, raised,
                     random_shape, same_kinds, sample_shapes)

NOT_SEATS = [None, True, 0, "", [], (), ((0,),), ((0,), (1,), (2,)), [(0,), (1,)], ((0,), ()), ((0,), [1]),
             ((0,), (1, 0)), ((0,), (1, 1)), ((0,), (3,)), ((0,), (-1,)), ((0,), (True,)), ((False,), (1,)),
             ((0,), (None,)), ((0,), ("1",)), ((0,), 1), ((0,), None)]


def wants_by_words(plain, chip, seats):
    """All wants that are not kept, ascending."""
    small, large = Nodes(plain), Nodes(chip)
    found = []
    for fork in small.forks():
        for one, other, far in itertools.permutations(small.held[fork], 3):
            kid = [kid for kid in small.kids[fork] if one in small.held[kid]][0]
            if other not in small.held[kid] or far in small.held[kid]:
                continue
            for here in seats[other]:
                for there in seats[far]:
                    top = large.meet([here, there])
                    if not any(top in large.above[large.meet([here, seat])] for seat in seats[one]):
                        found.append((fork, one, other, far, here, there))
    return sorted(found)


def random_seats(chance, plain, chip, chance_of_more):
    small, large = Nodes(plain), Nodes(chip)
    rows = []
    for _ in small.leaves:
        row = {chance.randrange(len(large.leaves))}
        while chance.random() < chance_of_more:
            row.add(chance.randrange(len(large.leaves)))
        rows.append(tuple(sorted(row)))
    return tuple(rows)


def fitting_seats(chance, plain, chip):
    """Seats without a shared one, where each want is kept: those of a laying, with others while they do no harm."""
    total = count_layings(plain, chip)
    if total == 0:
        return None
    rows = [[image] for image in nth_laying(plain, chip, chance.randrange(total))]
    for seat in range(len(Nodes(chip).leaves)):
        queue = chance.randrange(len(rows))
        if all(seat not in row for row in rows):
            more = [sorted(row + [seat]) if at == queue else row for at, row in enumerate(rows)]
            if not wants_by_words(plain, chip, more):
                rows = more
    return tuple(tuple(row) for row in rows)


class SeatsTest(unittest.TestCase):
    def test_what_are_seats(self):
        self.assertIs(is_seats(TWO, LONG, ((0, 2), (1,))), True)
        self.assertIs(is_seats(plain=(), chip=(), thing=((0,),)), True)
        self.assertIs(is_seats(TWO, LONG, ((0, 1, 2), (0, 1, 2))), True)
        for thing in NOT_SEATS:
            self.assertIs(is_seats(TWO, LONG, thing), False, thing)

    def test_shared(self):
        self.assertIsNone(first_shared(TWO, LONG, ((0, 2), (1,))))
        self.assertEqual(first_shared(plain=TWO, chip=LONG, seats=((0, 1, 2), (1, 2))), (0, 1, 1))
        self.assertEqual(first_shared(THREE, PAIRS, ((0, 3), (1, 2), (0, 1))), (0, 2, 0))
        self.assertEqual(first_shared(THREE, PAIRS, ((0,), (1, 2), (2, 3))), (1, 2, 2))
        self.assertIsNone(first_shared((), TWO, ((0, 1),)))

    def test_broken(self):
        # On PAIRS the queues 0 and 1 of THREE have to be nearer to one another than to queue 2.
        self.assertIsNone(first_broken(THREE, PAIRS, ((0,), (1,), (2,))))
        self.assertEqual(first_broken(plain=THREE, chip=PAIRS, seats=((0,), (2,), (1,))), (0, 0, 1, 2, 2, 1))
        # A want is kept as soon as one seat is near; each seat of the others wants one.
        self.assertEqual(first_broken(THREE, PAIRS, ((0, 3), (1,), (2,))), (0, 1, 0, 2, 3, 2))
        # No fork beneath the root wants nothing; nor does one queue.
        self.assertIsNone(first_broken(FLAT, FLAT, ((0,), (0,), (0,), (1,))))
        self.assertIsNone(first_broken((), COMB, ((0, 1, 2),)))
        # A shared seat is never near enough.
        self.assertEqual(first_broken(THREE, COMB, ((0,), (2,), (2,))), (0, 0, 1, 2, 2, 2))

    def test_samples_by_the_words(self):
        chance = random.Random(41)
        kept = 0
        for _ in range(400):
            plain = random_shape(chance, chance.randint(1, 6), True)
            chip = random_shape(chance, chance.randint(1, 8), False, 5)
            seats = random_seats(chance, plain, chip, chance.choice([0, 0.3, 0.8]))
            self.assertTrue(is_seats(plain, chip, seats))
            wants = wants_by_words(plain, chip, seats)
            self.assertTrue(same_kinds(first_broken(plain, chip, seats), wants[0] if wants else None))
            shared = [
                (one, other, seat)
                for one, other in itertools.combinations(range(len(seats)), 2)
                for seat in sorted(set(seats[one]) & set(seats[other]))
            ]
            self.assertEqual(first_shared(plain, chip, seats), shared[0] if shared else None)
            if wants or shared:
                self.assertEqual(raised(seat_laying, plain, chip, seats), ("NotUsable", "seats", -1))
            else:
                kept += 1
                self.check_laying(plain, chip, seats)
        self.assertGreater(kept, 20)

    def check_laying(self, plain, chip, seats):
        images = seat_laying(plain=plain, chip=chip, seats=seats)
        self.assertTrue(is_laying(plain, chip, images))
        for image, row in zip(images, seats):
            self.assertIn(image, row)

    def test_layings_of_several_seats(self):
        chance = random.Random(43)
        several = 0
        for _ in range(150):
            plain = random_shape(chance, chance.randint(2, 6), True)
            chip = random_shape(chance, chance.randint(len(Nodes(plain).leaves), 9), False, 5)
            seats = fitting_seats(chance, plain, chip)
            if seats is not None:
                several += any(len(row) > 1 for row in seats)
                self.check_laying(plain, chip, seats)
        self.assertGreater(several, 25)

    def test_seats_that_may_not_be_taken_one_by_one(self):
        # Seats near one another on both sides: images of a fork have to come from one side.
        chip = (PAIRS, PAIRS)
        seats = ((0, 4), (1, 5), (2, 6), (3, 7))
        self.check_laying(PAIRS, chip, seats)
        self.check_laying(PAIRS, chip, tuple(seats[queue] for queue in (2, 3, 0, 1)))
        self.assertEqual(raised(seat_laying, PAIRS, chip, tuple(seats[queue] for queue in (0, 2, 1, 3))),
                         ("NotUsable", "seats", -1))

    def test_sixteen_queues_in_good_time(self):
        begun = time.process_time()
        flat = (((),) * 4,) * 4
        wide = (((),) * 6,) * 4
        # Each queue has one seat or two of its part of the chip.
        rows = [[6 * (queue // 4) + queue % 4] + ([6 * (queue // 4) + 4 + queue % 4] if queue % 4 < 2 else [])
                for queue in range(16)]
        self.check_laying(flat, wide, tuple(tuple(row) for row in rows))
        comb = ()
        for _ in range(15):
            comb = (comb, ())
        chip = ()
        for _ in range(12):
            chip = (chip, ())
        chip = ((chip, ()), ((),) * 6, (), ())
        seats = tuple((queue,) for queue in range(13))
        plain = comb[0][0][0]
        self.check_laying(plain, chip, seats)
        full = tuple(tuple(range(24)) for _ in range(16))
        self.assertEqual(first_shared(flat, wide, full), (0, 1, 0))
        self.assertEqual(first_broken(flat, wide, full), (0, 0, 1, 4, 0, 0))
        self.check_laying((SIX, SIX, ((),) * 4), (SIX, SIX, SIX, SIX),
                          tuple((queue,) for queue in range(12)) + ((12, 16, 17), (13,), (14,), (15,)))
        self.assertLess(time.process_time() - begun, 20)

    def test_a_shape_on_itself(self):
        for plain in sample_shapes(20, plain=True, queues=6):
            many = len(Nodes(plain).leaves)
            self.check_laying(plain, plain, tuple((queue,) for queue in range(many)))

    def test_wrong_parameters(self):
        for call, name in ((is_seats, "thing"), (first_shared, "seats"), (first_broken, "seats"), (seat_laying, "seats")):
            good = {"plain": TWO, "chip": LONG, name: ((0,), (1,))}
            bad = {"plain": NOT_PLAIN, "chip": NOT_SHAPES, name: NOT_SEATS}
            if name == "thing":
                bad[name] = []
                for plain in NOT_PLAIN:
                    self.assertEqual(raised(call, plain, None, None), ("NotUsable", "plain", -1))
                    self.assertEqual(raised(call, plain=plain, chip=LONG, thing=((0,),)), ("NotUsable", "plain", -1))
                for chip in NOT_SHAPES:
                    self.assertEqual(raised(call, TWO, chip, None), ("NotUsable", "chip", -1))
            else:
                check_refusals(self, call, good, bad)
        self.assertEqual(raised(seat_laying, TWO, LONG, ((0,), (0, 1))), ("NotUsable", "seats", -1))
        self.assertEqual(raised(seat_laying, THREE, PAIRS, ((0, 3), (1,), (2,))), ("NotUsable", "seats", -1))


if __name__ == "__main__":
    unittest.main()
