"""[27]: what tells standings apart, played by the words."""

import random
import unittest

from nextbough.futures import lets_parting, parting_of
from nextbough.standings import Standing
from nextbough.standingmakers import standing_of
from support import (LONG, NOT_STANDINGS, PAIRS, THREE, TWO, Nodes, check_refusals, fill, raised, random_ranks,
                     sample_shapes)


def departures(standing, behind, queue, ranks, number, many):
    """What departs in the test: many departures behind the push."""
    held = standing.twin()
    gone = [held.depart() for _ in range(behind)]
    if queue is not None:
        held.push(number, queue, ranks)
    gone += [held.depart() for _ in range(many)]
    return [packet and packet[0] for packet in gone]


def first_unlike(one, other, test):
    behind, queue, ranks = test
    number = 0
    while number in one.present() + other.present():
        number += 1
    many = one.many_present() + other.many_present() + 1
    left = departures(one, behind, queue, ranks, number, many)
    right = departures(other, behind, queue, ranks, number, many)
    return next((place for place in range(len(left)) if left[place] != right[place]), None)


def bare(standing, forks):
    nodes = Nodes(standing.form_of())
    return any(bool(nodes.kids[node]) == forks and rank == ()
               for node, line in enumerate(standing.all_lines()) for rank, _ in line)


class PartingTest(unittest.TestCase):
    def check_parted(self, one, other):
        test = parting_of(one, other)
        if one.all_lines() == other.all_lines():
            self.assertIsNone(test)
            return
        self.assertIs(type(test), tuple)
        behind, queue, ranks = test
        self.assertTrue(0 <= behind <= one.many_present())
        place = first_unlike(one, other, test)
        self.assertIsNotNone(place, (one.all_lines(), other.all_lines(), test))
        self.assertEqual(lets_parting(one, other, test), place)

    def test_standings_with_other_orders(self):
        chance = random.Random(11)
        for form in sample_shapes(plain=True, queues=12):
            one, other = Standing(form), Standing(form)
            fill(one, chance, 5, bare=False)
            fill(other, chance, 6, bare=False)
            self.check_parted(one, other)
            self.check_parted(other, one)
            self.check_parted(one, one)
            self.check_parted(one, one.twin())
            self.check_parted(Standing(form), one)
            self.check_parted(one, Standing(form))

    def test_the_same_order_from_other_queues(self):
        for bare_at in ("queues", "forks", "nowhere"):
            chance = random.Random(12)
            for form in sample_shapes(plain=True, queues=12):
                nodes = Nodes(form)
                pair = Standing(form), Standing(form)
                for number in range(5):
                    for held in pair:
                        queue = chance.randrange(len(nodes.leaves))
                        depth = len(nodes.path(queue)) - 1
                        tops = () if bare_at == "forks" else (number * 3 + chance.randint(0, 2),)
                        last = () if bare_at == "queues" else (number * 3 + chance.randint(0, 2),)
                        held.push(number, queue, (tops,) * depth + (last,))
                self.assertEqual(pair[0].order(), pair[1].order())
                self.check_parted(*pair)
                self.check_parted(pair[1], pair[0])

    def test_the_same_items_with_other_ranks(self):
        chance = random.Random(13)
        for form in sample_shapes(plain=True, queues=12):
            held = fill(Standing(form), chance, 9, bare=False)
            lines = held.all_lines()
            for node, line in enumerate(lines):
                for place, (rank, item) in enumerate(line):
                    if place + 1 == len(line):
                        new = rank[:-1] + (rank[-1] + chance.randint(1, 3),)
                    else:
                        new = line[place + 1][0]
                    if new != rank:
                        changed = line[:place] + ((new, item),) + line[place + 1:]
                        other = standing_of(form, lines[:node] + (changed,) + lines[node + 1:])
                        self.check_parted(held, other)
                        self.check_parted(other, held)

    def test_ranks_bare_at_queues_or_forks_alone(self):
        chance = random.Random(14)
        parted = 0
        for _ in range(400):
            form = chance.choice([TWO, THREE, PAIRS, ()])
            pair = Standing(form), Standing(form)
            nodes = Nodes(form)
            forks = chance.random() < 0.5
            for held in pair:
                for number in range(chance.randint(1, 3)):
                    queue = chance.randrange(len(nodes.leaves))
                    depth = len(nodes.path(queue)) - 1
                    tops = random_ranks(chance, depth, 1, forks)
                    held.push(number, queue, tops + random_ranks(chance, 1, 1, not forks))
            self.check_parted(*pair)
            parted += pair[0].order() == pair[1].order() and not pair[0].same_as(pair[1])
        self.assertGreater(parted, 30)

    def test_the_greatest_ranks(self):
        top = (2 ** 200 - 1,) * 8
        one, other = Standing(THREE), Standing(THREE)
        one.push(0, 0, (top, top, top))
        other.push(0, 1, (top, top, top))
        self.check_parted(one, other)
        one, other = Standing(()), Standing(())
        one.push(0, 0, (top,))
        other.push(0, 0, ((),))
        self.check_parted(one, other)
        self.check_parted(other, one)

    def test_where_both_have_bare_ranks(self):
        one, other = Standing(TWO), Standing(TWO)
        one.push(1, 0, ((), (1,)))
        other.push(1, 0, ((1,), ()))
        self.assertEqual(raised(parting_of, one, other), ("NotUsable", "other", -1))
        self.assertEqual(raised(lets_parting, one, other, None), ("NotUsable", "other", -1))
        self.assertEqual(raised(parting_of, other, one), ("NotUsable", "other", -1))
        self.assertEqual(raised(parting_of, one, one.twin()), None)
        self.assertIsNone(parting_of(one, one.twin()))
        bothways = Standing(TWO)
        bothways.push(1, 0, ((), ()))
        self.assertEqual(raised(parting_of, bothways, bothways), ("NotUsable", "other", -1))
        self.assertEqual(raised(parting_of, one, bothways), ("NotUsable", "other", -1))
        self.assertTrue(bare(one, True) and not bare(one, False) and bare(bothways, False))

    def test_arguments_stay(self):
        one = fill(Standing(PAIRS), random.Random(1), 6, bare=False)
        other = fill(Standing(PAIRS), random.Random(2), 6, bare=False)
        before = one.all_lines(), other.all_lines()
        lets_parting(one, other, parting_of(one, other))
        self.assertEqual((one.all_lines(), other.all_lines()), before)

    def test_many_packets(self):
        chance = random.Random(15)
        one = fill(Standing(PAIRS), chance, 1500, 50, False, 0)
        lines = list(one.all_lines())
        rank, item = lines[1][-1]
        lines[1] = lines[1][:-1] + ((rank + (1,), item),)
        other = standing_of(PAIRS, tuple(lines))
        test = parting_of(one, other)
        self.assertIsNotNone(lets_parting(one, other, test))


class LetsPartingTest(unittest.TestCase):
    def setUp(self):
        self.one, self.other = Standing(TWO), Standing(TWO)
        for number in range(3):
            self.one.push(number, 0, ((number,), (number,)))
            self.other.push(number, 0, ((number * 2,), (number,)))

    def refuse(self, test, word):
        self.assertEqual(raised(lets_parting, self.one, self.other, test), ("InvalidPaper", word, -1), test)
        self.assertEqual(raised(lets_parting, one=self.one, other=self.other, test=test), ("InvalidPaper", word, -1))

    def test_each_word(self):
        for test in (None, True, 0, "abc", [], [0, None, None], (), (0, None), (0, None, None, None)):
            self.refuse(test, "shape")
        for behind in (None, True, False, -1, "0", (), 4, 2 ** 70):
            self.refuse((behind, None, None), "behind")
        for queue, ranks in ((None, ((), ())), (0, None), (2, ((), ())), (True, ((), ())), (-1, ((), ())),
                             (0, ((),)), (0, [(), ()]), (0, ((), (True,))), ("0", ((), ())), ((), ()), (0, 0)):
            self.refuse((0, queue, ranks), "way")
        for test in ((0, None, None), (3, None, None), (0, 1, ((0,), ())), (3, 1, ((1,), ()))):
            self.refuse(test, "same")

    def test_two_faults_at_once(self):
        self.refuse((4, None), "shape")
        self.refuse((4, 2, None), "behind")
        self.refuse((0, 2, None), "way")

    def test_places(self):
        # The new packet is 3: behind 0 and 1 in one, behind 0 alone in other.
        self.assertEqual(lets_parting(self.one, self.other, (0, 1, ((1,), ()))), 1)
        self.assertEqual(lets_parting(self.one, self.other, (1, 1, ((1,), ()))), 1)
        self.assertEqual(lets_parting(self.one, self.other, (2, 1, ((2,), ()))), 2)
        # From an empty standing None departs, also ahead of the push.
        empty = Standing(TWO)
        self.assertEqual(lets_parting(self.one, empty, (2, None, None)), 0)
        self.assertEqual(lets_parting(empty, self.one, (0, None, None)), 0)
        self.assertEqual(raised(lets_parting, empty, self.one, (1, None, None)), ("InvalidPaper", "behind", -1))
        self.assertEqual(raised(lets_parting, empty, empty, (0, None, None)), ("InvalidPaper", "same", -1))

    def test_the_new_packet_is_present_in_neither(self):
        one, other = Standing(TWO), Standing(TWO)
        one.push(0, 0, ((1,), (1,)))
        one.push(2, 0, ((2,), (1,)))
        other.push(0, 0, ((1,), (1,)))
        other.push(1, 0, ((2,), (1,)))
        self.assertEqual(lets_parting(one, other, (1, 1, ((0,), (1,)))), 2)

    def test_wrong_parameters(self):
        one = self.one
        other_shape, long_shape = Standing(PAIRS), Standing(LONG)
        bad_one = NOT_STANDINGS + [long_shape, Standing(((),))]
        bad_other = NOT_STANDINGS + [other_shape, long_shape, Standing(())]
        check_refusals(self, parting_of, {"one": one, "other": one}, {"one": bad_one, "other": bad_other})
        check_refusals(self, lambda one, other: lets_parting(one, other, None), {"one": one, "other": one},
                       {"one": bad_one, "other": bad_other})
        self.assertEqual(raised(parting_of, long_shape, long_shape), ("NotUsable", "one", -1))


if __name__ == "__main__":
    unittest.main()
