"""[51] and [52]: keepers that keep the order, keepers that know all, defeats, plays of the foe."""

import random
import unittest

from nextbough.defeats import lets_defeat, play_foe
from nextbough.foes import Foe
from nextbough.foretold import Foretold
from nextbough.insertings import ranks_at
from nextbough.keepings import keeping_answers
from nextbough.layingkinds import is_laying
from nextbough.mimics import Mimic
from nextbough.packing import can_lay
from nextbough.standings import Standing
from support import (COMB, FLAT, LONG, NOT_NUMBERS, NOT_PACKETS, NOT_PLAIN, NOT_SHAPES, PAIRS, SIX, THREE, TWO, Nodes,
                     check_refusals, raised, random_ranks, random_shape, same_kinds)

GAP = 2 ** 60
NOT_KINDS = [None, True, 0, "", "Any", "any ", (), ["any"], ("any",), "fits"]
NOT_CHOICES = [None, True, 0, "", (), [], [1], (-1,), (True,), (0, None), (0, "1"), ((0,),), ([0],)]


class Words:
    """A Mimic by the words; chosen tells which answers stayed, for the tests to look at."""

    def __init__(self, plain, chip, kind, choices):
        self.here, self.there = Standing(plain), Standing(chip)
        self.kind, self.choices = kind, choices
        self.history = []
        self.stayed = None

    def push(self, number, queue, ranks):
        level = set(self.here.present()) == set(self.there.present())
        self.here.push(number, queue, ranks)
        rows = keeping_answers(self.there, number, self.here.order()) if level else ()
        ways = []
        for seat, places in rows:
            if raised(ranks_at, self.there, seat, places, GAP) is None:
                ways.append((seat, ranks_at(self.there, seat, places, GAP)))
        fits = [way for way in ways if self.fits(way[0], queue)]
        self.stayed = fits or ways
        if self.stayed:
            choice = self.choices[number % len(self.choices)]
            way = self.stayed[choice % len(self.stayed)]
        else:
            path = Nodes(self.there.form_of()).path(0)
            ends = tuple(len(self.there.line_of(node)) for node in path)
            way = (0, ranks_at(self.there, 0, ends, GAP))
        self.there.push(number, *way)
        self.history.append((way[0], queue))
        return way

    def fits(self, seat, queue):
        own = [pushed for at, pushed in self.history if at == seat]
        if self.kind == "own":
            return all(pushed == queue for pushed in own)
        if self.kind == "new":
            return not own
        return self.kind == "any" or queue in own

    def depart(self):
        self.here.depart()
        gone = self.there.depart()
        return None if gone is None else gone[0]


class MimicTest(unittest.TestCase):
    def test_by_the_words(self):
        chance = random.Random(71)
        behind = 0
        for turn in range(120):
            plain = random_shape(chance, chance.randint(1, 6), True)
            chip = random_shape(chance, chance.randint(1, 8), False, 5)
            kind = ("any", "own", "new", "old")[turn % 4]
            choices = tuple(chance.randrange(10 ** 30) for _ in range(chance.randint(1, 4)))
            mimic, words = Mimic(plain, chip, kind, choices), Words(plain, chip, kind, choices)
            nodes = Nodes(plain)
            for _ in range(18):
                number = chance.randrange(40)
                if chance.random() < 0.25:
                    self.assertEqual(mimic.depart(), words.depart())
                elif number in words.here.present() or number in words.there.present():
                    self.assertEqual(raised(mimic.push, number, 0, None), ("NotUsable", "number", -1))
                else:
                    queue = chance.randrange(len(nodes.leaves))
                    ranks = random_ranks(chance, len(nodes.path(queue)))
                    self.assertTrue(same_kinds(mimic.push(number, queue, ranks), words.push(number, queue, ranks)))
                    behind += not words.stayed
                self.assertTrue(mimic.chip_standing().same_as(words.there))
        self.assertGreater(behind, 50)

    def test_kinds(self):
        # Three queues of plain on four of the chip; first come queues 0, 1 and 2, then queue 0 again, last.
        seats = {}
        for kind in ("any", "own", "new", "old"):
            mimic = Mimic((((),) * 3), FLAT, kind, (0,))
            seats[kind] = [
                mimic.push(number=number, queue=queue, ranks=((number,), (number,)))[0]
                for number, queue in enumerate((0, 1, 2, 0, 1))
            ]
        self.assertEqual(seats["any"], [0, 0, 0, 0, 0])
        self.assertEqual(seats["own"], [0, 1, 2, 0, 1])
        self.assertEqual(seats["new"], [0, 1, 2, 3, 0])
        self.assertEqual(seats["old"], [0, 0, 0, 0, 0])
        mimic = Mimic((((),) * 3), FLAT, "old", (3, 1, 2, 0, 2 ** 500))
        self.assertEqual([mimic.push(n, n % 3, ((n,), ()))[0] for n in range(5)], [3, 1, 2, 3, 1])

    def test_new_counts_packets_that_departed(self):
        mimic = Mimic(TWO, TWO, "new", (0,))
        self.assertEqual(mimic.push(0, 0, ((0,), ()))[0], 0)
        self.assertEqual(mimic.depart(), 0)
        self.assertEqual(mimic.push(0, 0, ((0,), ()))[0], 1)

    def test_the_choice_is_by_the_number(self):
        great = 10 ** 80 + 1
        for number in (0, 1, 2, 2 ** 60 - 1):
            mimic = Mimic((), FLAT, "any", (great, 2, 3))
            choice = (great, 2, 3)[number % 3]
            self.assertEqual(mimic.push(number, 0, ((5,),)), (choice % 4, ((0,), (0,))))

    def test_ranks_by_the_gap(self):
        mimic = Mimic((), (), "any", (0,))
        self.assertEqual(mimic.push(0, 0, ((5,),)), (0, ((0,),)))
        self.assertEqual(mimic.push(1, 0, ((7,),)), (0, ((GAP,),)))
        self.assertEqual(mimic.push(2, 0, ((4,),)), (0, ((-GAP,),)))
        self.assertEqual(mimic.push(3, 0, ((6,),)), (0, ((GAP // 2,),)))

    def test_no_gap_left(self):
        # Each packet comes between 0 and the one before, until the sixty-first finds no integer there.
        mimic = Mimic((), (), "any", (0,))
        mimic.push(0, 0, ((0,),))
        ways = [mimic.push(number, 0, ((1, -number),))[1][0][0] for number in range(1, 63)]
        self.assertEqual(ways[:3] + ways[60:61], [GAP, GAP // 2, GAP // 4, 1])
        self.assertEqual(ways[61], 2 * GAP)
        self.assertEqual(mimic.chip_standing().order()[-1], 62)

    def test_a_chip_with_other_packets(self):
        # No answer keeps the order of PAIRS on COMB; then the chip departs another packet than plain.
        mimic = Mimic(THREE, (), "any", (0,))
        mimic.push(0, 0, ((0,), (0,), ()))
        mimic.push(1, 2, ((1,), ()))
        mimic.push(2, 1, ((2,), (-1,), ()))
        here = Standing(THREE)
        here.push(0, 0, ((0,), (0,), ()))
        here.push(1, 2, ((1,), ()))
        here.push(2, 1, ((2,), (-1,), ()))
        self.assertEqual(here.order(), (2, 1, 0))
        self.assertEqual(mimic.chip_standing().order(), (0, 1, 2))
        self.assertEqual(mimic.depart(), 0)
        # Plain has 0 and 1, the chip 1 and 2; each of these is present.
        for number in (0, 1, 2):
            self.assertEqual(raised(mimic.push, number, 0, ((0,), (0,), ())), ("NotUsable", "number", -1))
        self.assertEqual(mimic.push(3, 2, ((-9,), ())), (0, ((3 * GAP,),)))
        self.assertEqual([mimic.depart() for _ in range(4)], [1, 2, 3, None])
        self.assertEqual(mimic.push(0, 2, ((-9,), ())), (0, ((0,),)))

    def test_one_queue_of_the_chip_and_empty(self):
        mimic = Mimic(SIX, ((),), "own", (1, 2))
        self.assertIsNone(mimic.depart())
        self.assertEqual(mimic.push(4, 5, ((1,), ())), (0, ((0,), (0,))))
        self.assertEqual(mimic.chip_standing().order(), (4,))

    def test_standings_handed_out_are_new(self):
        mimic = Mimic(TWO, COMB, "own", (1,))
        mimic.push(1, 0, ((), ()))
        held = mimic.chip_standing()
        held.depart()
        self.assertEqual(mimic.chip_standing().order(), (1,))
        mimic.depart()
        self.assertEqual(mimic.chip_standing().order(), ())

    def test_wrong_parameters(self):
        good = {"plain": TWO, "chip": LONG, "kind": "any", "choices": (0,)}
        bad = {"plain": NOT_PLAIN, "chip": NOT_SHAPES, "kind": NOT_KINDS, "choices": NOT_CHOICES}
        check_refusals(self, Mimic, good, bad)
        check_refusals(self, play_foe, good, bad)
        mimic = Mimic(TWO, LONG, "any", (0,))
        mimic.push(1, 0, ((1,), ()))
        before = mimic.chip_standing().all_lines()
        for number in NOT_PACKETS + [1]:
            self.assertEqual(raised(mimic.push, number, 9, None), ("NotUsable", "number", -1))
            self.assertEqual(raised(mimic.push, number=number, queue=0, ranks=((1,), ())), ("NotUsable", "number", -1))
        for queue in NOT_NUMBERS + [2]:
            self.assertEqual(raised(mimic.push, 2, queue, None), ("NotUsable", "queue", -1))
        for ranks in (None, True, 0, "", [], (), ((1,),), ((1,), (), ()), ((True,), ()), [(1,), ()]):
            self.assertEqual(raised(mimic.push, 2, 1, ranks), ("NotUsable", "ranks", -1))
        self.assertEqual(mimic.chip_standing().all_lines(), before)
        self.assertEqual((mimic.depart(), mimic.depart()), (1, None))


class ForetoldTest(unittest.TestCase):
    def run_events(self, plain, chip, events):
        keeper, here, there = Foretold(plain, chip, events), Standing(plain), Standing(chip)
        for event in events:
            if event[0] == "push":
                here.push(*event[1:])
                way = keeper.push(*event[1:])
                there.push(event[1], *way)
                self.assertEqual(way[0], 0)
                self.assertEqual(set(way[1][:-1]), {()} if len(way[1]) > 1 else set())
            else:
                gone = here.depart()
                there.depart()
                self.assertEqual(keeper.depart(), None if gone is None else gone[0])
        return keeper, here, there

    def test_it_is_right_on_any_chip(self):
        chance = random.Random(81)
        for _ in range(60):
            plain = random_shape(chance, chance.randint(1, 8), True)
            chip = random_shape(chance, chance.randint(1, 5), False, 4)
            nodes, events = Nodes(plain), []
            for number in chance.sample(range(100), 20):
                queue = chance.randrange(len(nodes.leaves))
                events.append(("push", number, queue, random_ranks(chance, len(nodes.path(queue)))))
                while chance.random() < 0.45:
                    events.append(("depart",))
            self.run_events(plain, chip, tuple(events))

    def test_places(self):
        events = (("push", 7, 0, ((5,), ())), ("depart",), ("push", 9, 1, ((5,), ())), ("push", 3, 0, ((6,), ())),
                  ("push", 4, 0, ((1,), ())), ("push", 2, 1, ((9,), ())), ("depart",), ("depart",))
        keeper = Foretold(plain=TWO, chip=LONG, events=events)
        places = [keeper.push(number=event[1], queue=event[2], ranks=event[3]) for event in events if len(event) == 4]
        # 7 departs first, then the lines give 3 and 9; 4 and 2 never depart.
        self.assertEqual([way[1][-1] for way in places], [(0,), (2,), (1,), (3,), (4,)])
        self.assertEqual(places[0], (0, ((), (), (), (0,))))
        # Departures are the chip's, whatever events say.
        self.assertEqual([keeper.depart() for _ in range(6)], [7, 3, 9, 4, 2, None])

    def test_one_queue_and_no_events(self):
        keeper = Foretold((), (), ())
        self.assertIsNone(keeper.depart())
        self.assertEqual(raised(keeper.push, 0, 0, ((),)), ("NotUsable", "number", -1))
        self.run_events((), (), (("depart",), ("push", 1, 0, ((3,),)), ("push", 2, 0, ((1,),)), ("depart",)))

    def test_only_the_next_push(self):
        events = (("push", 1, 0, ((1,), (0,))), ("depart",), ("push", 0, 1, ((), ())))
        keeper = Foretold(TWO, (), events)
        wrong = [(0, 1, ((), ())), (1, 1, ((1,), (0,))), (1, 0, ((1,), ())), (True, 0, ((1,), (0,))),
                 (1, False, ((1,), (0,))), (1, 0, ((True,), (0,))), (1, 0, [(1,), (0,)]), (1, 0, ((1,), (False,))),
                 (None, 0, ((1,), (0,))), (1, None, None), (1, 9, ((1,), (0,))), (2 ** 60, 0, ())]
        for values in wrong:
            self.assertEqual(raised(keeper.push, *values), ("NotUsable", "number", -1), values)
        self.assertEqual(keeper.push(1, 0, ((1,), (0,))), (0, ((0,),)))
        self.assertEqual(raised(keeper.push, 1, 0, ((1,), (0,))), ("NotUsable", "number", -1))
        self.assertEqual(keeper.push(0, 1, ((), ())), (0, ((1,),)))
        self.assertEqual(raised(keeper.push, 0, 1, ((), ())), ("NotUsable", "number", -1))

    def test_wrong_parameters(self):
        push = ("push", 8, 0, ((4,), (7,)))
        check_refusals(self, Foretold, {"plain": TWO, "chip": LONG, "events": (push,)}, {
            "plain": NOT_PLAIN,
            "chip": NOT_SHAPES,
            "events": [None, True, 0, "", [], [push], push, (push, push), (("depart", 1),), (("push", 8, 0),),
                       (("push", True, 0, ((4,), (7,))),), (("push", 8, 2, ((4,), (7,))),)],
        })


class DefeatTest(unittest.TestCase):
    ANSWERS = ((0, ((0,), ()), 0, ((5,),)), (1, ((-2,), ()), 0, ((7,),)))

    def refuse(self, defeat, word, at, chip=()):
        told = ("InvalidPaper", word, at)
        self.assertEqual(raised(lets_defeat, TWO, chip, defeat), told, defeat)
        self.assertEqual(raised(lets_defeat, plain=TWO, chip=chip, defeat=defeat), told, defeat)

    def test_accepted(self):
        self.assertEqual(lets_defeat(TWO, (), (self.ANSWERS, 0, 1, 0)), 0)
        more = tuple((queue, (ranks[0], (1,)), seat, led) for queue, ranks, seat, led in self.ANSWERS)
        more += ((0, ((-9,), (-9,)), 0, ((-9,),)),)
        self.assertEqual(lets_defeat(plain=TWO, chip=(), defeat=(more, 1, 1, 0)), 1)

    def test_each_word(self):
        answers = self.ANSWERS
        for thing in (None, True, 0, "abcd", [], (), (answers, 0, 1), (answers, 0, 1, 0, 0), [answers, 0, 1, 0],
                      (list(answers), 0, 1, 0), (None, 0, 1, 0), ("", 0, 1, 0), (0, 0, 1, 0)):
            self.refuse(thing, "shape", -1)
        for answer in (None, True, 0, "abcd", (), answers[0][:3], answers[0] + (0,), list(answers[0])):
            self.refuse(((answer,) + answers, 0, 1, 0), "answer", 0)
            self.refuse((answers + (answer,), 0, 1, 0), "answer", 2)
        for queue, ranks in ((2, ((0,), ())), (True, ((0,), ())), (-1, ((0,), ())), (None, ((0,), ())), (0, ((0,),)),
                             (0, [(0,), ()]), (0, ((0,), (True,))), (0, None), (0, ((2 ** 200,), ()))):
            self.refuse((answers + ((queue, ranks, 0, ((5,),)),), 0, 1, 0), "push", 2)
            self.refuse(((answers[0], (queue, ranks, 9, None)), 0, 1, 0), "push", 1)
        for queue, ranks in ((1, ((5,),)), (False, ((5,),)), (None, ((5,),)), (0, ()), (0, ((5,), ())), (0, [(5,)]),
                             (0, ((True,),)), (0, None)):
            self.refuse((answers + ((0, ((0,), ()), queue, ranks),), 0, 1, 0), "way", 2)
        for behind in (2, 3, -1, True, False, None, "0", (0,)):
            self.refuse((answers, behind, 1, 0), "behind", -1)
        self.refuse(((), 0, 1, 0), "behind", -1)
        self.refuse((answers, 1, 0, 1), "same", -1)
        for due in (0, 2, -1, True, None, "1", (1,), [1]):
            self.refuse((answers, 0, due, 0), "due", -1)
        for shown in (1, 2, -1, False, None, "0", (0,), [0]):
            self.refuse((answers, 0, 1, shown), "shown", -1)
        same = ((0, ((0,), ()), 0, ((0,),)), (1, ((2,), ()), 0, ((2,),)))
        self.refuse((same, 0, 0, 0), "shown", -1)
        self.refuse((same, 1, 1, 1), "shown", -1)
        self.refuse((same, 1, True, 1), "due", -1)

    def test_two_faults_at_once(self):
        answers = self.ANSWERS
        push, way = (9, None, 0, ((5,),)), (0, ((0,), ()), 9, None)
        # All checks of one answer come ahead of those of the next one.
        self.refuse(((push, None), None, None, None), "push", 0)
        self.refuse(((way, None, push), None, None, None), "way", 0)
        self.refuse(((None, way), None, None, None), "answer", 0)
        self.refuse(((answers[0], way, push), None, None, None), "way", 1)
        self.refuse((((9, None, 9, None),), None, None, None), "push", 0)
        self.refuse((answers, None, None, None), "behind", -1)
        self.refuse((answers, 1, None, None), "same", -1)
        self.refuse((answers, 0, None, None), "due", -1)
        self.refuse((answers, 0, 1, None), "shown", -1)

    def test_wrong_parameters(self):
        for plain in NOT_PLAIN:
            self.assertEqual(raised(lets_defeat, plain, None, None), ("NotUsable", "plain", -1))
        for chip in NOT_SHAPES:
            self.assertEqual(raised(lets_defeat, TWO, chip, None), ("NotUsable", "chip", -1))
            self.assertEqual(raised(lets_defeat, chip=chip, plain=TWO, defeat=()), ("NotUsable", "chip", -1))


class PlayFoeTest(unittest.TestCase):
    def test_defeats_are_accepted_and_layings_are_layings(self):
        chance = random.Random(91)
        ends = {}
        named = [((), ()), ((), LONG), (PAIRS, COMB), (COMB, PAIRS), (TWO, ()), (FLAT, PAIRS), (THREE, COMB)]
        for turn in range(120):
            plain, chip = named[turn] if turn < len(named) else (
                random_shape(chance, chance.randint(1, 7), True), random_shape(chance, chance.randint(1, 9), False))
            for kind in ("any", "own", "new", "old"):
                choices = tuple(chance.randrange(10 ** 9) for _ in range(4))
                told = play_foe(plain=plain, chip=chip, kind=kind, choices=choices)
                self.assertTrue(same_kinds(told, self.by_words(plain, chip, kind, choices)))
                ends[told[0]] = ends.get(told[0], 0) + 1
                if told[0] == "won":
                    self.assertEqual(lets_defeat(plain, chip, told[1]), told[1][1])
                else:
                    self.assertEqual(len(told), 2)
                    self.assertTrue(is_laying(plain, chip, told[1]))
                if not can_lay(plain, chip):
                    self.assertEqual(told[0], "won")
        self.assertGreater(min(ends.values()), 50)

    def by_words(self, plain, chip, kind, choices):
        foe, mimic = Foe(plain, chip), Words(plain, chip, kind, choices)
        while foe.verdict() is None:
            foe.answer(*mimic.push(*foe.next_push()))
        word, *more = foe.verdict()
        return (word, (foe.answers(),) + tuple(more)) if word == "won" else (word, *more)

    def test_one_queue(self):
        self.assertEqual(play_foe((), LONG, "any", (2,)), ("fits", (2,)))


if __name__ == "__main__":
    unittest.main()
