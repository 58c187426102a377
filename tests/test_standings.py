"""[23] and [24] of stage 1: standings, and standings made of lines."""

import random
import unittest

from nextbough.standingmakers import lets_lines, standing_of
from nextbough.standings import Standing
from support import (COMB, LONG, NOT_NUMBERS, NOT_SHAPES, NOT_STANDINGS, PAIRS, TWO, Nodes, check_refusals, fill,
                     raised, random_ranks, sample_shapes)

NOT_PACKETS = NOT_NUMBERS + [2 ** 60, 2 ** 70]
GREAT = 2 ** 200 - 1


class Model:
    """A standing by the words, as slow as it may be."""

    def __init__(self, form):
        self.nodes = Nodes(form)
        self.lines = [[] for _ in self.nodes.shapes]
        self.where = {}

    def push(self, number, queue, ranks):
        path = self.nodes.path(queue)
        for place, node in enumerate(path):
            item = number
            if place + 1 < len(path):
                item = self.nodes.kids[node].index(path[place + 1])
            ahead = [entry for entry in self.lines[node] if entry[0] <= ranks[place]]
            behind = [entry for entry in self.lines[node] if entry[0] > ranks[place]]
            self.lines[node] = ahead + [(ranks[place], item)] + behind
        self.where[number] = queue

    def depart(self):
        if not self.lines[0]:
            return None
        node, ranks = 0, []
        while True:
            rank, item = self.lines[node].pop(0)
            ranks.append(rank)
            if not self.nodes.kids[node]:
                return (item, self.where.pop(item), tuple(ranks))
            node = self.nodes.kids[node][item]


class StandingTest(unittest.TestCase):
    def test_example(self):
        held = Standing(TWO)
        self.assertIsNone(held.push(5, 0, ((2,), ())))
        held.push(3, 1, ((1, 9), (4,)))
        held.push(8, 0, ((1,), ()))
        self.assertEqual(held.line_of(0), (((1,), 0), ((1, 9), 1), ((2,), 0)))
        self.assertEqual(held.depart(), (5, 0, ((1,), ())))

    def check_same(self, held, model):
        lines = tuple(tuple(line) for line in model.lines)
        self.assertEqual(held.all_lines(), lines)
        for node, line in enumerate(lines):
            self.assertEqual(held.line_of(node), line)
        self.assertEqual(held.present(), tuple(sorted(model.where)))
        self.assertEqual(held.many_present(), len(model.where))
        for number in range(12):
            self.assertEqual(held.lies_at(number), model.where.get(number))

    def test_pushes_and_departures_by_the_words(self):
        chance = random.Random(8)
        for form in sample_shapes(queues=24):
            held, model = Standing(form), Model(form)
            many = len(model.nodes.leaves)
            self.assertEqual(held.form_of(), form)
            for _ in range(30):
                number, queue = chance.randrange(12), chance.randrange(many)
                ranks = random_ranks(chance, len(model.nodes.path(queue)))
                if chance.random() < 0.3:
                    self.assertEqual(held.depart(), model.depart())
                elif number in model.where:
                    self.assertEqual(raised(held.push, number, queue, ranks), ("NotUsable", "number", -1))
                else:
                    self.assertIsNone(held.push(number, queue, ranks))
                    model.push(number, queue, ranks)
                self.check_same(held, model)
            order = held.order()
            self.assertEqual(order, tuple(model.depart()[0] for _ in order))
            self.assertEqual(tuple(held.depart()[0] for _ in order), order)
            self.assertIsNone(held.depart())

    def test_an_empty_standing(self):
        for form in ((), ((),), LONG):
            held = Standing(form=form)
            self.assertIsNone(held.depart())
            self.assertEqual((held.order(), held.present(), held.many_present()), ((), (), 0))
            self.assertEqual(held.all_lines(), ((),) * len(Nodes(form).shapes))
            self.assertIsNone(held.lies_at(0))

    def test_a_packet_that_departed_comes_again(self):
        held = Standing(TWO)
        held.push(0, 0, ((), ()))
        self.assertEqual(raised(held.push, 0, 1, ((), ())), ("NotUsable", "number", -1))
        self.assertEqual(held.depart(), (0, 0, ((), ())))
        held.push(0, 1, ((3,), ()))
        self.assertEqual((held.lies_at(0), held.order()), (1, (0,)))

    def test_bounds(self):
        held = Standing(())
        held.push(2 ** 60 - 1, 0, ((GREAT,) * 8,))
        held.push(0, 0, ((-GREAT,),))
        held.push(7, 0, ((),))
        self.assertEqual(held.order(), (7, 0, 2 ** 60 - 1))
        self.assertEqual(held.lies_at(2 ** 60 - 1), 0)
        self.assertEqual(raised(held.push, 9, 0, ((2 ** 200,),)), ("NotUsable", "ranks", -1))
        self.assertEqual(raised(held.push, 2 ** 60, 0, ((),)), ("NotUsable", "number", -1))

    def test_ties_stand_as_they_come(self):
        held = Standing(TWO)
        for number in range(6):
            held.push(number, (number // 2) & 1, ((), ()))
        self.assertEqual(held.order(), (0, 1, 2, 3, 4, 5))
        held.push(6, 0, ((0,), ()))
        self.assertEqual(held.order(), (0, 1, 2, 3, 4, 5, 6))

    def test_an_order_hangs_on_all_lines(self):
        held = Standing(TWO)
        held.push(1, 0, ((5,), (9,)))
        held.push(2, 1, ((1,), (0,)))
        held.push(3, 0, ((0,), (9, 1)))
        self.assertEqual(held.order(), (1, 2, 3))

    def test_twin(self):
        for form in sample_shapes(20):
            held = fill(Standing(form), random.Random(3), 12)
            twin = held.twin()
            before = held.all_lines()
            self.assertIsNot(twin, held)
            self.assertTrue(held.same_as(twin) and twin.same_as(held))
            self.assertEqual((twin.order(), twin.present(), twin.form_of()), (held.order(), held.present(), form))
            while twin.depart():
                pass
            self.assertEqual(held.all_lines(), before)
            self.assertIs(held.same_as(twin), before == twin.all_lines())
            self.assertIs(held.same_as(other=held), True)

    def test_same_as(self):
        here, there = Standing(TWO), Standing(TWO)
        here.push(1, 0, ((1,), ()))
        self.assertIs(here.same_as(there), False)
        there.push(1, 0, ((1,), (0,)))
        self.assertIs(here.same_as(there), False)
        self.assertIs(Standing(()).same_as(Standing(((),))), False)
        self.assertIs(Standing(((), ((),))).same_as(Standing((((),), ()))), False)
        self.assertIs(Standing(LONG).same_as(Standing(LONG)), True)

    def test_it_keeps_and_gives_nothing_that_changes(self):
        held = Standing(TWO)
        held.push(1, 0, ((1,), ()))
        for value in (held.all_lines(), held.line_of(0), held.order(), held.present(), held.line_of(0)[0]):
            self.assertIs(type(value), tuple)
        before = held.line_of(0)
        held.push(2, 1, ((0,), ()))
        self.assertEqual(before, (((1,), 0),))

    def test_wrong_parameters(self):
        check_refusals(self, Standing, {"form": TWO}, {"form": NOT_SHAPES})
        held = Standing(TWO)
        held.push(1, 0, ((1,), ()))
        before = held.all_lines()
        bad_ranks = [None, True, 0, "", [], ((),), ((), (), ()), [(), ()], ((), []), ((), (True,)), ((1,) * 9, ()),
                     ((), (2 ** 200,)), ((-2 ** 200,), ())]
        for number in NOT_PACKETS + [1]:
            self.assertEqual(raised(held.push, number, 5, None), ("NotUsable", "number", -1))
            self.assertEqual(raised(held.push, ranks=((), ()), queue=0, number=number), ("NotUsable", "number", -1))
            if number != 1:
                self.assertEqual(raised(held.lies_at, number), ("NotUsable", "number", -1))
        for queue in NOT_NUMBERS + [2]:
            self.assertEqual(raised(held.push, 2, queue, None), ("NotUsable", "queue", -1))
            self.assertEqual(raised(held.push, 2, queue, ((), ())), ("NotUsable", "queue", -1))
        for ranks in bad_ranks:
            self.assertEqual(raised(held.push, 2, 1, ranks), ("NotUsable", "ranks", -1))
        for node in NOT_NUMBERS + [3]:
            self.assertEqual(raised(held.line_of, node=node), ("NotUsable", "node", -1))
        for other in NOT_STANDINGS:
            self.assertEqual(raised(held.same_as, other), ("NotUsable", "other", -1))
        self.assertEqual((held.all_lines(), held.present()), (before, (1,)))


class LinesTest(unittest.TestCase):
    GOOD = ((((1,), 0), ((2,), 1), ((2,), 0)), (((), 7), ((), 3)), (((9,), 2 ** 60 - 1),))

    def test_lines_of_standings(self):
        self.assertEqual(lets_lines(TWO, self.GOOD), 3)
        self.assertEqual(lets_lines((), ((),)), 0)
        self.assertEqual(lets_lines(form=(), thing=((((), 5),),)), 1)
        for form in sample_shapes(queues=24):
            held = fill(Standing(form), random.Random(5), 25)
            lines = held.all_lines()
            self.assertEqual(lets_lines(form, lines), held.many_present())
            made = standing_of(form=form, lines=lines)
            self.assertIs(type(made), Standing)
            self.assertTrue(made.same_as(held))
            self.assertEqual((made.order(), made.present()), (held.order(), held.present()))
            self.assertEqual(made.lies_at(3), held.lies_at(3))

    def refuse(self, form, thing, word, at):
        self.assertEqual(raised(lets_lines, form, thing), ("InvalidPaper", word, at), thing)
        self.assertEqual(raised(lets_lines, form=form, thing=thing), ("InvalidPaper", word, at), thing)
        self.assertEqual(raised(standing_of, form, thing), ("NotUsable", "lines", -1))

    def test_each_word(self):
        top, left, right = self.GOOD
        for thing in (None, True, 0, "abc", [], list(self.GOOD), (), self.GOOD[:2], self.GOOD + ((),)):
            self.refuse(TWO, thing, "shape", -1)
        for node in range(3):
            for line in (None, [], 0, "", True, (((1,), 0), ((0,), 0)), (((True,), 0),), (0,), (((), 0, 0),)):
                self.refuse(TWO, self.GOOD[:node] + (line,) + self.GOOD[node + 1:], "line", node)
        for item in (2, -1, True, None, "0", (), [], 2 ** 60):
            self.refuse(TWO, ((((1,), 0), ((2,), item), ((2,), 0)), left, right), "item", 0)
        for item in (2 ** 60, -1, True, None, "0", (), []):
            self.refuse(TWO, (top, (((), 7), ((), item)), right), "item", 1)
            self.refuse(TWO, (top, left, (((9,), item),)), "item", 2)
        self.refuse(TWO, (top, left[:1], right), "many", 1)
        self.refuse(TWO, (top, left, ()), "many", 2)
        self.refuse(TWO, ((), left, right), "many", 1)
        self.refuse(TWO, (top, (((), 7), ((), 7)), right), "twice", 1)
        self.refuse(TWO, (top, left, (((9,), 3),)), "twice", 2)
        self.refuse((), ((((), 1), ((), 1)),), "twice", 0)
        self.refuse(COMB, ((((), 0),), (((), 1),), (), (), (), (), ()), "many", 5)

    def test_two_faults_at_once(self):
        top, left, right = self.GOOD
        # Of one line: first whether it is one, then its items, then how many, then packets twice.
        self.refuse(TWO, (top, (((1,), True), ((0,), 7)), right), "line", 1)
        self.refuse(TWO, (top, (((1,), True),), right), "item", 1)
        self.refuse(TWO, (top, (((1,), 7), ((1,), 7), ((1,), 7)), right), "many", 1)
        # Of two lines: all of the first one ahead of all of the next one.
        self.refuse(TWO, (top, (((), 7), ((), 7)), None), "twice", 1)
        self.refuse(TWO, (top, (((), 7),), None), "many", 1)
        self.refuse(TWO, ((((1,), 5),), None, None), "item", 0)
        self.refuse(PAIRS, ((((1,), 0),), (((1,), 0),), (((1,), 3),), (), (((), 0),), (), ()), "many", 4)
        self.refuse(TWO, (top, None), "shape", -1)

    def test_wrong_parameters(self):
        for form in NOT_SHAPES:
            for call, name in ((lets_lines, "thing"), (standing_of, "lines")):
                self.assertEqual(raised(call, form, None), ("NotUsable", "form", -1))
                self.assertEqual(raised(call, **{"form": form, name: ((),)}), ("NotUsable", "form", -1))
        self.assertEqual(raised(standing_of, (), [()]), ("NotUsable", "lines", -1))

    def test_the_standing_keeps_nothing_of_the_lines(self):
        made = standing_of(TWO, self.GOOD)
        made.depart()
        made.push(9, 0, ((), ()))
        self.assertEqual(lets_lines(TWO, self.GOOD), 3)
        self.assertEqual(standing_of(TWO, self.GOOD).all_lines(), self.GOOD)


if __name__ == "__main__":
    unittest.main()
