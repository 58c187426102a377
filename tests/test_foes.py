"""[49]: the foe's bounds and its plays against keepers of many kinds; (G2) of these."""

import random
import unittest

from nextbough.defeats import lets_defeat
from nextbough.foes import Foe, most_challenges, most_pushes
from nextbough.foretold import Foretold
from nextbough.layingkinds import is_laying
from nextbough.mimics import Mimic
from nextbough.packing import can_lay
from nextbough.plainforms import plain_form
from nextbough.plankeepers import PlanKeeper
from nextbough.standings import Standing
from nextbough.wants import first_broken, first_shared, is_seats
from support import (COMB, FLAT, LONG, NOT_NUMBERS, NOT_PLAIN, NOT_SHAPES, PAIRS, SIX, THREE, TWO, Nodes,
                     check_refusals, raised, random_shape, same_kinds, sample_plans)

TOP = 2 ** 200 - 1


class Wild:
    """A keeper that answers anyhow; ranks are drawn from a list."""

    def __init__(self, chip, chance, pool):
        self.nodes = Nodes(chip)
        self.chance = chance
        self.pool = pool

    def push(self, number, queue, ranks):
        seat = self.chance.randrange(len(self.nodes.leaves))
        return seat, tuple(self.chance.choice(self.pool) for _ in self.nodes.path(seat))


class Heap:
    """A keeper with all packets at one queue of the chip, in the order of plain as long as that can be."""

    def __init__(self, plain, chip, seat):
        self.here = Standing(plain)
        self.length = len(Nodes(chip).path(seat))
        self.seat = seat
        self.row = []

    def push(self, number, queue, ranks):
        self.here.push(number, queue, ranks)
        order = self.here.order()
        at = order.index(number)
        low = self.row[at - 1][0] if at else None
        high = self.row[at][0] if at < len(self.row) else None
        if low is None:
            rank = 0 if high is None else high - 2 ** 100
        else:
            rank = low + 2 ** 100 if high is None else (low + high) // 2
        self.row.insert(at, (rank, number))
        return self.seat, ((),) * (self.length - 1) + ((rank,),)


class Play:
    """A play, with everything checked that the document says of it on the way."""

    def __init__(self, case, plain, chip, keeper):
        self.case, self.plain, self.chip = case, plain, chip
        self.here, self.there = Standing(plain), Standing(chip)
        self.small, self.large = Nodes(plain), Nodes(chip)
        self.foe = Foe(plain, chip)
        self.told = []
        firsts = min(len(self.small.leaves), len(self.large.leaves) + 1)
        while True:
            case.assertEqual(self.foe.answers(), tuple(self.told))
            push = self.foe.next_push()
            case.assertTrue(same_kinds(push, self.foe.next_push()))
            if push is None:
                break
            case.assertIsNone(self.foe.verdict())
            if len(self.told) < firsts:
                case.assertEqual(push[1], len(self.told))
            self.check_push(push)
            way = keeper.push(*push)
            case.assertIsNone(self.foe.answer(*way))
            self.here.push(*push)
            self.there.push(push[0], *way)
            self.told.append(push[1:] + tuple(way))
            if len(self.told) <= firsts:
                case.assertEqual(self.here.order(), tuple(range(len(self.told))))
            over = self.expected()
            case.assertEqual(self.foe.verdict() is not None, over is not None)
        self.verdict = self.foe.verdict()
        self.check_end()

    def check_push(self, push):
        bound = most_pushes(self.plain, self.chip)
        number, queue, ranks = push
        self.case.assertEqual(number, len(self.told))
        self.case.assertLess(number, bound)
        if len(self.large.leaves) < len(self.small.leaves):
            # Then there are first packets at the queues 0 to u alone.
            self.case.assertLessEqual(queue, len(self.large.leaves))
        self.case.assertEqual(len(ranks), len(self.small.path(queue)))
        for rank in ranks:
            self.case.assertEqual(len(rank), 1)
            self.case.assertTrue(-2 * bound < rank[0] < 2 * bound)

    def expected(self):
        dues, shows = self.here.order(), self.there.order()
        for behind, pair in enumerate(zip(dues, shows)):
            if pair[0] != pair[1]:
                return ("won", behind) + pair
        seats = self.foe.seats_now()
        if is_seats(self.plain, self.chip, seats) and first_shared(self.plain, self.chip, seats) is None:
            if first_broken(self.plain, self.chip, seats) is None:
                return "fits"
        return None

    def check_end(self):
        case, verdict = self.case, self.verdict
        if verdict[0] == "won":
            case.assertTrue(same_kinds(verdict, self.expected()))
            case.assertEqual(lets_defeat(self.plain, self.chip, (tuple(self.told),) + verdict[1:]), verdict[1])
        else:
            case.assertEqual((verdict[0], self.expected()), ("fits", "fits"))
            case.assertTrue(is_laying(self.plain, self.chip, verdict[1]))
            used = {queue: set() for queue in range(len(self.small.leaves))}
            for queue, _, seat, _ in self.told:
                used[queue].add(seat)
            for queue, (image, row) in enumerate(zip(verdict[1], self.foe.seats_now())):
                case.assertIn(image, row)
                case.assertLessEqual(set(row), used[queue])
        case.assertEqual(raised(self.foe.answer, 0, ((),) * len(self.large.path(0))), ("NotUsable", "queue", -1))
        case.assertTrue(same_kinds(self.foe.verdict(), verdict))


class BoundsTest(unittest.TestCase):
    def test_by_the_words(self):
        # plain, chip, challenges, pushes
        rows = [
            ((), (), 0, 1), ((), COMB, 0, 1),
            (TWO, (), 1, 5), (SIX, COMB, 1, 8), (PAIRS, TWO, 1, 6),
            (TWO, TWO, 1, 5), (FLAT, COMB, 1, 7), (TWO, LONG, 1, 5),
            (THREE, FLAT, 2, 3 + 6 + 1), (THREE, COMB, 3, 3 + 9 + 3), (THREE, PAIRS, 3, 15),
            (PAIRS, COMB, 2, 4 + 6 + 1), (PAIRS, ((COMB,), PAIRS), 6, 4 + 18 + 15),
            # d counts the children of the root of the plain form.
            (THREE, ((PAIRS, (), ()),), 5, 3 + 15 + 10), (THREE, ((), (), (), (), (((),),), TWO), 4, 3 + 12 + 6),
        ]
        for plain, chip, challenges, pushes in rows:
            self.assertEqual(most_challenges(plain=plain, chip=chip), challenges, (plain, chip))
            self.assertEqual(most_pushes(plain=plain, chip=chip), pushes, (plain, chip))

    def test_samples(self):
        chance = random.Random(3)
        for _ in range(300):
            plain = random_shape(chance, chance.randint(1, 9), True)
            chip = random_shape(chance, chance.randint(1, 14), False)
            own, seats = len(Nodes(plain).leaves), len(Nodes(chip).leaves)
            alone = sum(kid == () for kid in plain_form(chip))
            many = 0 if own == 1 else 1
            if own > 1 and seats >= own and any(plain):
                many = 2 + min(seats - own, seats - alone)
            self.assertEqual(most_challenges(plain, chip), many)
            pushes = own + 3 * many + many * (many - 1) // 2
            self.assertEqual(most_pushes(plain, chip), 1 if own == 1 else seats + 4 if seats < own else pushes)

    def test_wrong_parameters(self):
        for call in (most_challenges, most_pushes, Foe):
            check_refusals(self, call, {"plain": TWO, "chip": LONG}, {"plain": NOT_PLAIN, "chip": NOT_SHAPES})


class PlayTest(unittest.TestCase):
    def pairs(self, seed, many, queues=7, seats=10):
        chance = random.Random(seed)
        named = [((), ()), ((), LONG), (TWO, ()), (TWO, TWO), (PAIRS, COMB), (PAIRS, FLAT), (FLAT, PAIRS), (SIX, TWO),
                 (THREE, ((THREE,),)), (COMB, (PAIRS, COMB)), (PAIRS, ((COMB, LONG), PAIRS))]
        return named + [
            (random_shape(chance, chance.randint(1, queues), True), random_shape(chance, chance.randint(1, seats), False))
            for _ in range(many)
        ]

    def test_keepers_that_keep_the_order(self):
        chance = random.Random(51)
        ends = {}
        for plain, chip in self.pairs(52, 90):
            for kind in ("any", "own", "new", "old"):
                choices = tuple(chance.randrange(10 ** 9) for _ in range(5))
                play = Play(self, plain, chip, Mimic(plain, chip, kind, choices))
                if not can_lay(plain, chip):
                    self.assertEqual(play.verdict[0], "won")
                ends[kind, play.verdict[0]] = ends.get((kind, play.verdict[0]), 0) + 1
        self.assertEqual(len(ends), 8)

    def test_keepers_by_a_plan_are_never_beaten(self):
        for plan in sample_plans():
            play = Play(self, plan.plain_of(), plan.chip_of(), PlanKeeper(plan))
            self.assertEqual(play.verdict[0], "fits")

    def test_keepers_that_answer_anyhow(self):
        chance = random.Random(53)
        pools = [[()], [(0,)], [(TOP,)], [(-TOP,) * 8], [(), (TOP,), (-TOP,) * 8, (0,), (0, 0)],
                 [(k,) for k in range(-9, 9)]]
        for plain, chip in self.pairs(54, 60):
            for pool in pools:
                Play(self, plain, chip, Wild(chip, chance, pool))

    def test_keepers_with_one_queue(self):
        for plain, chip in self.pairs(55, 50):
            for seat in {0, len(Nodes(chip).leaves) - 1}:
                play = Play(self, plain, chip, Heap(plain, chip, seat))
                self.assertEqual(play.verdict[0], "fits" if plain == () else "won")

    def test_who_is_told_all_events_is_not_beaten_by_these(self):
        # (G2): right with one queue of any chip, for the events of a play that is over.
        for plain, chip in ((THREE, COMB), (PAIRS, COMB), (FLAT, TWO)):
            play = Play(self, plain, chip, Mimic(plain, chip, "new", (1, 5, 2)))
            events = tuple(("push", number) + told[:2] for number, told in enumerate(play.told))
            events += (("depart",),) * len(events)
            keeper, here = Foretold(plain, (), events), Standing(plain)
            for event in events:
                if event[0] == "push":
                    keeper.push(*event[1:])
                    here.push(*event[1:])
                else:
                    self.assertEqual(keeper.depart(), here.depart()[0])

    def test_great_shapes(self):
        chance = random.Random(56)
        plain = (((), (), (), ()),) * 4
        chip = ((((), ()), ((), (), (), ())),) * 4
        self.assertEqual(len(Nodes(chip).leaves), 24)
        for kind in ("new", "own"):
            Play(self, plain, chip, Mimic(plain, chip, kind, tuple(chance.randrange(99) for _ in range(9))))
        Play(self, THREE, chip, Mimic(THREE, chip, "new", (7, 0, 3)))


class AnswersTest(unittest.TestCase):
    def test_one_queue(self):
        foe = Foe((), LONG)
        self.assertEqual(foe.seats_now(), ((),))
        self.assertEqual(foe.next_push()[:2], (0, 0))
        foe.answer(2, ((5,), ()))
        self.assertEqual((foe.verdict(), foe.next_push(), foe.seats_now()), (("fits", (2,)), None, ((2,),)))

    def test_seats_of_the_first_packets(self):
        foe = Foe(THREE, COMB)
        for number, seat in enumerate((3, 0, 3)):
            push = foe.next_push()
            self.assertEqual(push[:2], (number, number))
            foe.answer(queue=seat, ranks=((number,),) * len(Nodes(COMB).path(seat)))
        self.assertEqual(foe.seats_now(), ((3,), (0,), (3,)))
        self.assertIsNone(foe.verdict())
        self.assertIsNotNone(foe.next_push())
        self.assertEqual([told[0] for told in foe.answers()], [0, 1, 2])
        self.assertEqual([told[2] for told in foe.answers()], [3, 0, 3])

    def test_won_at_once(self):
        foe = Foe(TWO, TWO)
        foe.next_push()
        foe.answer(0, ((5,), ()))
        foe.next_push()
        foe.answer(1, ((4,), ()))
        self.assertEqual(foe.verdict(), ("won", 0, 0, 1))
        self.assertIsNone(foe.next_push())

    def test_no_answer_without_a_push(self):
        foe = Foe(TWO, TWO)
        way = (0, ((5,), ()))
        self.assertEqual(raised(foe.answer, *way), ("NotUsable", "queue", -1))
        self.assertEqual(raised(foe.answer, queue=0, ranks=None), ("NotUsable", "queue", -1))
        foe.next_push()
        before = foe.next_push()
        for queue in NOT_NUMBERS + [2]:
            self.assertEqual(raised(foe.answer, queue, None), ("NotUsable", "queue", -1))
            self.assertEqual(raised(foe.answer, queue, ((5,), ())), ("NotUsable", "queue", -1))
        for ranks in (None, True, 0, "", [], (), ((5,),), ((5,), (), ()), [(5,), ()], ((True,), ()), ((2 ** 200,), ())):
            self.assertEqual(raised(foe.answer, 0, ranks), ("NotUsable", "ranks", -1))
        self.assertEqual((foe.answers(), foe.next_push()), ((), before))
        foe.answer(*way)
        self.assertEqual(raised(foe.answer, *way), ("NotUsable", "queue", -1))
        self.assertEqual(len(foe.answers()), 1)

    def test_what_it_hands_out_does_not_change(self):
        foe = Foe(TWO, TWO)
        answers, seats = foe.answers(), foe.seats_now()
        foe.next_push()
        foe.answer(1, ((5,), ()))
        self.assertEqual((answers, seats), ((), ((), ())))
        self.assertEqual(foe.seats_now(), ((1,), ()))


if __name__ == "__main__":
    unittest.main()
