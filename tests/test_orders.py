"""[24] of stage 2, [25] and their consequences: boughs, grafts, events that happen, orders."""

import itertools
import random
import unittest

from nextbough.boughparts import bough_standing, grafted
from nextbough.cutting import replaced_bough
from nextbough.orders import may_turn, order_of, place_of
from nextbough.playing import play_events
from nextbough.standings import Standing
from support import (COMB, FLAT, LONG, NOT_NUMBERS, NOT_SHAPES, NOT_STANDINGS, PAIRS, THREE, TWO, Nodes,
                     check_refusals, fill, raised, random_ranks, sample_shapes)


def order_by_words(standing, node):
    nodes = Nodes(standing.form_of())
    line = standing.line_of(node)
    if not nodes.kids[node]:
        return tuple(item for _, item in line)
    given = [list(order_by_words(standing, kid)) for kid in nodes.kids[node]]
    return tuple(given[child].pop(0) for _, child in line)


class BoughsTest(unittest.TestCase):
    def test_boughs_of_standings(self):
        for form in sample_shapes(queues=16):
            held = fill(Standing(form), random.Random(2), 14)
            before = held.all_lines()
            nodes = Nodes(form)
            for node, bough in enumerate(nodes.shapes):
                part = bough_standing(held, node)
                size = len(Nodes(bough).shapes)
                self.assertIs(type(part), Standing)
                self.assertEqual(part.form_of(), bough)
                self.assertEqual(part.all_lines(), before[node:node + size])
                self.assertEqual(part.order(), order_of(held, node))
                self.assertEqual(set(part.present()),
                                 {n for n in held.present() if held.lies_at(n) in nodes.held[node]})
                while part.depart():
                    pass
            self.assertEqual(held.all_lines(), before)

    def test_a_bough_has_queues_of_its_own(self):
        held = Standing(PAIRS)
        held.push(4, 3, ((1,), (2,), (3,)))
        part = bough_standing(standing=held, node=4)
        self.assertEqual((part.lies_at(4), part.all_lines()), (1, ((((2,), 1),), (), (((3,), 4),))))

    def test_grafts(self):
        for form in sample_shapes(queues=12):
            held = fill(Standing(form), random.Random(6), 4)
            before = held.all_lines()
            nodes = Nodes(form)
            for node, bough in enumerate(nodes.shapes):
                lies = any(held.lies_at(number) in nodes.held[node] for number in held.present())
                told = raised(grafted, held, node, LONG)
                self.assertEqual(told, ("NotUsable", "node", -1) if lies else None)
                if not lies:
                    made = grafted(held, node, LONG)
                    size = len(Nodes(bough).shapes)
                    self.assertEqual(made.form_of(), replaced_bough(form, node, LONG))
                    self.assertEqual(made.all_lines(), before[:node] + ((),) * 6 + before[node + size:])
                    self.assertEqual(made.order(), held.order())
                    self.assertEqual(made.present(), held.present())
            self.assertEqual(held.all_lines(), before)

    def test_a_packet_may_come_to_a_graft(self):
        held = Standing(TWO)
        held.push(1, 1, ((5,), ()))
        made = grafted(standing=held, node=1, form=TWO)
        made.push(2, 1, ((4,), (), ()))
        self.assertEqual((made.order(), made.lies_at(1), held.order()), ((2, 1), 2, (1,)))
        self.assertEqual(grafted(Standing(FLAT), 0, ()).all_lines(), ((),))
        self.assertEqual(raised(grafted, held, 0, ()), ("NotUsable", "node", -1))

    def test_wrong_parameters(self):
        held = Standing(TWO)
        held.push(1, 1, ((5,), ()))
        check_refusals(self, bough_standing, {"standing": held, "node": 2},
                       {"standing": NOT_STANDINGS, "node": NOT_NUMBERS + [3]})
        check_refusals(self, grafted, {"standing": held, "node": 1, "form": TWO},
                       {"standing": NOT_STANDINGS, "node": NOT_NUMBERS + [3, 0, 2], "form": NOT_SHAPES})


class PlayTest(unittest.TestCase):
    def test_events_happen(self):
        events = (("depart",), ("push", 5, 0, ((2,), ())), ("push", 3, 1, ((1,), ())), ("depart",), ("depart",),
                  ("depart",), ("push", 9, 1, ((1,), (2,))))
        departed, standing = play_events(TWO, events)
        self.assertEqual(departed, (None, 3, 5, None))
        self.assertIs(type(standing), Standing)
        self.assertEqual(standing.all_lines(), ((((1,), 1),), (), (((2,), 9),)))
        self.assertEqual(play_events(form=(), events=())[0], ())
        self.assertEqual(play_events((), (("depart",),))[0], (None,))

    def test_over_shapes(self):
        chance = random.Random(9)
        for form in sample_shapes(queues=24):
            nodes, held, events, departed = Nodes(form), Standing(form), [], []
            for number in range(25):
                queue = chance.randrange(len(nodes.leaves))
                events.append(("push", number, queue, random_ranks(chance, len(nodes.path(queue)))))
                held.push(*events[-1][1:])
                while chance.random() < 0.4:
                    events.append(("depart",))
                    gone = held.depart()
                    departed.append(gone and gone[0])
            told, standing = play_events(form, tuple(events))
            self.assertEqual(told, tuple(departed))
            self.assertTrue(standing.same_as(held))

    def test_wrong_parameters(self):
        push = ("push", 1, 0, ((), ()))
        check_refusals(self, play_events, {"form": TWO, "events": (push,)}, {
            "form": NOT_SHAPES,
            "events": [None, True, 0, "", [], [push], push, ((),), (push, push), (("push", 1, 2, ((), ())),),
                       (("push", 1, 0, ((),)),), (("push", True, 0, ((), ())),), (("depart", 1),)],
        })


class OrdersTest(unittest.TestCase):
    def test_orders_by_the_words(self):
        for form in sample_shapes(queues=24):
            held = fill(Standing(form), random.Random(4), 20)
            nodes = Nodes(form)
            for node, kids in enumerate(nodes.kids):
                order = order_of(held, node)
                self.assertEqual(order, order_by_words(held, node))
                for number in range(20):
                    if number in order:
                        self.assertEqual(place_of(held, node, number), order.index(number))
                    else:
                        self.assertEqual(raised(place_of, held, node, number), ("NotUsable", "number", -1))
                if len(kids) == 1:
                    self.assertEqual(order, order_of(held, kids[0]))
            self.assertEqual(held.order(), order_of(held, 0))
            gone = held.twin()
            self.assertEqual(held.order(), tuple(gone.depart()[0] for _ in held.order()))

    def test_small_orders(self):
        held = Standing(THREE)
        self.assertEqual(order_of(held, 0), ())
        held.push(2 ** 60 - 1, 0, ((3,), (), ()))
        held.push(4, 2, ((3,), ()))
        self.assertEqual((order_of(standing=held, node=0), order_of(held, 1), order_of(held, 3)),
                         ((2 ** 60 - 1, 4), (2 ** 60 - 1,), ()))
        self.assertEqual(place_of(standing=held, node=0, number=4), 1)
        self.assertEqual(raised(place_of, held, 1, 4), ("NotUsable", "number", -1))

    def test_wrong_parameters(self):
        held = Standing(TWO)
        held.push(1, 1, ((5,), ()))
        check_refusals(self, order_of, {"standing": held, "node": 0},
                       {"standing": NOT_STANDINGS, "node": NOT_NUMBERS + [3]})
        check_refusals(self, place_of, {"standing": held, "node": 0, "number": 1},
                       {"standing": NOT_STANDINGS, "node": NOT_NUMBERS + [3], "number": NOT_NUMBERS + [0, 2, 2 ** 60]})


class MayTurnTest(unittest.TestCase):
    def test_examples(self):
        # In COMB a push at queue 3 changes no sequence within the bough of the other child.
        self.assertIs(may_turn(COMB, 3, 0, 1), False)
        self.assertIs(may_turn(COMB, 0, 0, 1), True)
        self.assertIs(may_turn(COMB, 2, 0, 1), False)
        self.assertIs(may_turn(COMB, 1, 0, 2), True)
        self.assertIs(may_turn(PAIRS, 1, 0, 2), True)
        self.assertIs(may_turn(PAIRS, 3, 0, 1), False)
        self.assertIs(may_turn(FLAT, 2, 0, 1), False)
        self.assertIs(may_turn(form=((),), queue=0, one=0, other=0), False)

    def test_one_equal_to_other(self):
        for form in sample_shapes(20):
            many = len(Nodes(form).leaves)
            for queue, one in itertools.product(range(many), repeat=2):
                self.assertIs(may_turn(form, queue, one, one), False)

    def test_by_the_guarantee(self):
        for form in sample_shapes():
            nodes = Nodes(form)
            many = len(nodes.leaves)
            for queue, one, other in itertools.product(range(many), repeat=3):
                if one != other:
                    kids = nodes.kids[nodes.meet((one, other))]
                    holds = any(queue in nodes.held[kid] and (one in nodes.held[kid] or other in nodes.held[kid])
                                for kid in kids)
                    self.assertIs(may_turn(form, queue, one, other), holds)

    def test_by_pushes(self):
        """What some push does in some of many small standings; the sequences that change are those told."""
        chance = random.Random(1)
        for form in (TWO, THREE, FLAT[:3], LONG, PAIRS):
            nodes = Nodes(form)
            many = len(nodes.leaves)
            turned = set()
            for _ in range(1500):
                held = fill(Standing(form), chance, 4, 2, True, 0)
                before = held.order()
                queue = chance.randrange(many)
                held.push(9, queue, random_ranks(chance, len(nodes.path(queue)), 2))
                after = [number for number in held.order() if number != 9]
                for left, right in itertools.combinations(before, 2):
                    if after.index(left) > after.index(right):
                        one, other = held.lies_at(left), held.lies_at(right)
                        turned.add((queue, one, other))
                        turned.add((queue, other, one))
            for queue, one, other in itertools.product(range(many), repeat=3):
                self.assertIs(may_turn(form, queue, one, other), (queue, one, other) in turned, (form, queue, one))

    def test_wrong_parameters(self):
        bad = NOT_NUMBERS + [3]
        check_refusals(self, may_turn, {"form": LONG, "queue": 0, "one": 1, "other": 2},
                       {"form": NOT_SHAPES, "queue": bad, "one": bad, "other": bad})
        self.assertEqual(raised(may_turn, LONG, 0, True, True), ("NotUsable", "one", -1))


if __name__ == "__main__":
    unittest.main()
