"""[21] and [22]: ranks, lines, ways, events; putting entries into lines."""

import random
import unittest

from nextbough.entrylines import put_entry, put_place
from nextbough.rankkinds import are_ranks, events_fit, is_line, is_rank
from support import (LONG, NOT_LINES, NOT_NUMBERS, NOT_RANKS, NOT_SHAPES, TWO, Nodes, check_refusals, raised,
                     random_ranks, sample_shapes, same_kinds)

GREAT = 2 ** 200 - 1


class RanksTest(unittest.TestCase):
    def test_ranks(self):
        for thing in ((), (0,), (-1, 5), (1,) * 8, (GREAT,), (-GREAT,), (GREAT,) * 8):
            self.assertIs(is_rank(thing), True, thing)
        for thing in NOT_RANKS:
            self.assertIs(is_rank(thing), False, thing)
        self.assertIs(is_rank(thing=(GREAT + 1,)), False)

    def test_lines(self):
        for thing in ((), (((), 0),), (((), 0), ((), 0)), (((), 0), ((1,), 1), ((1,), 0), ((1, -5), 2), ((2,), 0)),
                      (((-3,), 0), ((-2,), 0)), (((1,) * 8, 0),)):
            self.assertIs(is_line(thing), True, thing)
        for item in (None, True, -1, "x", [], [1, [2]], ("y",), 2 ** 250):
            self.assertIs(is_line((((0,), item),)), True, item)
        for thing in NOT_LINES + [(((1,), 0), ((), 0)), (((1, 2), 0), ((1,), 0)), (((1,) * 9, 0),),
                                  (((0,), 0), ((0, True), 0)), (((GREAT + 1,), 0),), ((((0,), 0),),)]:
            self.assertIs(is_line(thing), False, thing)
        self.assertIs(is_line(thing=()), True)

    def test_are_ranks(self):
        self.assertIs(are_ranks(LONG, 0, ((), (), (1,), (2, 3))), True)
        self.assertIs(are_ranks(LONG, 2, ((), ())), True)
        self.assertIs(are_ranks((), 0, ((5,),)), True)
        for queue, thing in ((0, ((), (), ())), (0, ((),) * 5), (2, ((),)), (2, [(), ()]), (2, ((), [])), (2, ((), 1)),
                             (2, ((), (True,))), (2, ((GREAT + 1,), ())), (2, None), (2, True), (2, ""), (2, "ab"),
                             (2, ((), (1,) * 9))):
            self.assertIs(are_ranks(LONG, queue, thing), False, thing)
        check_refusals(self, lambda form, queue: are_ranks(form, queue, None), {"form": LONG, "queue": 0},
                       {"form": NOT_SHAPES, "queue": NOT_NUMBERS + [3]})
        self.assertIs(are_ranks(form=TWO, queue=1, thing=((), ())), True)

    def test_are_ranks_over_shapes(self):
        chance = random.Random(1)
        for form in sample_shapes(queues=24):
            nodes = Nodes(form)
            for queue in range(len(nodes.leaves)):
                ranks = random_ranks(chance, len(nodes.path(queue)))
                self.assertIs(are_ranks(form, queue, ranks), True)
                self.assertIs(are_ranks(form, queue, ranks + ((),)), False)
                self.assertIs(are_ranks(form, queue, ranks[1:]), False)


class EventsTest(unittest.TestCase):
    PUSH = ("push", 4, 0, ((), (1,)))

    def test_events_that_fit(self):
        for thing in ((), (("depart",),), (("depart",), self.PUSH, ("depart",), ("depart",)),
                      (self.PUSH, ("push", 2 ** 60 - 1, 1, ((GREAT,), ()))), (("depart",),) * 401,
                      tuple(("push", number, 1, ((), ())) for number in range(500))):
            self.assertIs(events_fit(TWO, thing), True)

    def test_events_that_do_not_fit(self):
        number, queue, ranks = self.PUSH[1:]
        for event in (None, True, 0, "depart", (), ("depart", 0), ["depart"], ("push",), ("pull", number, queue, ranks),
                      ("push", number, queue), ("push", number, queue, ranks, 0), list(self.PUSH), (True,), ("",),
                      (["depart"],), ("push", 2 ** 60, queue, ranks), ("push", -1, queue, ranks),
                      ("push", True, queue, ranks), ("push", "4", queue, ranks), ("push", [], queue, ranks),
                      ("push", number, 2, ranks), ("push", number, False, ranks), ("push", number, -1, ranks),
                      ("push", number, [], ranks), ("push", number, queue, ((),)), ("push", number, queue, ((), (True,))),
                      ("push", number, queue, [(), ()]), ("push", number, queue, None), (None, number, queue, ranks)):
            self.assertIs(events_fit(TWO, (event,)), False, event)
            self.assertIs(events_fit(TWO, (("depart",), event)), False, event)
        for thing in (None, True, 0, "", "depart", [], [("depart",)], ("depart",), self.PUSH):
            self.assertIs(events_fit(TWO, thing), False, thing)

    def test_a_packet_is_pushed_once(self):
        self.assertIs(events_fit(TWO, (self.PUSH, self.PUSH)), False)
        self.assertIs(events_fit(TWO, (self.PUSH, ("depart",), self.PUSH)), False)
        self.assertIs(events_fit(TWO, (self.PUSH, ("push", 4, 1, ((), ())))), False)

    def test_wrong_parameters(self):
        check_refusals(self, lambda form: events_fit(form, None), {"form": TWO}, {"form": NOT_SHAPES})
        self.assertIs(events_fit(form=TWO, thing=()), True)


class EntriesTest(unittest.TestCase):
    def test_example(self):
        self.assertEqual(put_entry((((0,), 1), ((0, 3), 0)), (0,), 2), (((0,), 1), ((0,), 2), ((0, 3), 0)))

    def test_places(self):
        line = (((), "a"), ((), "b"), ((1,), "c"), ((1,), "d"), ((1, -9), "e"), ((2,), "f"))
        for rank, place in (((), 2), ((0,), 2), ((1,), 4), ((1, -10), 4), ((1, -9), 5), ((1, 0), 5), ((2,), 6),
                            ((GREAT,) * 8, 6), ((-GREAT,), 2)):
            self.assertEqual(put_place(line, rank), place)
            self.assertEqual(put_entry(line, rank, "z"), line[:place] + ((rank, "z"),) + line[place:])
        self.assertEqual((put_place((), ()), put_entry((), (), 7)), (0, (((), 7),)))

    def test_over_lines(self):
        chance = random.Random(2)
        for _ in range(200):
            line = ()
            for item in range(chance.randint(0, 12)):
                rank = random_ranks(chance, 1)[0]
                place = len([entry for entry in line if entry[0] <= rank])
                self.assertEqual(put_place(line, rank), place)
                longer = put_entry(line, rank, item)
                self.assertTrue(is_line(longer))
                self.assertEqual(longer[:place] + longer[place + 1:], line)
                self.assertEqual(longer[place], (rank, item))
                line = longer

    def test_items_are_any_values_and_are_not_shared(self):
        for item in (None, True, 0, -1, "", (), [], [1, ["x"]], ([],), 2 ** 260):
            self.assertTrue(same_kinds(put_entry((), (1,), item), (((1,), item),)))
        item = [1, [2]]
        held = put_entry((), (1,), item)
        longer = put_entry(held, (0,), "y")
        item[1].append(3)
        held[0][1].append(4)
        self.assertEqual(held, (((1,), [1, [2], 4]),))
        self.assertEqual(longer, (((0,), "y"), ((1,), [1, [2]])))

    def test_wrong_parameters(self):
        good = {"line": (((0,), 1),), "rank": (0,)}
        bad = {"line": NOT_LINES, "rank": NOT_RANKS}
        check_refusals(self, put_place, good, bad)
        check_refusals(self, lambda line, rank: put_entry(line, rank, None), good, bad)
        self.assertEqual(put_entry(line=(), rank=(), item=None), (((), None),))
        self.assertEqual(put_place(line=(), rank=()), 0)
        self.assertEqual(raised(put_entry, (), [], 0), ("NotUsable", "rank", -1))


if __name__ == "__main__":
    unittest.main()
