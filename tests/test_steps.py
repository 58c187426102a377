"""[47], [48] and [53]: pushes behind all others, hops, neighbours."""

import random
import unittest

from nextbough.insertings import plain_places, ranks_at
from nextbough.neighbours import neighbour_pushes
from nextbough.standings import Standing
from nextbough.steps import back_ranks, hop_ranks
from support import (COMB, FLAT, LONG, NOT_NUMBERS, NOT_PACKETS, NOT_STANDINGS, PAIRS, SIX, THREE, TWO, Nodes,
                     check_refusals, raised, sample_shapes)

BOUND = 2 ** 199


def single(form, chance, pushes, spread=4, wide=10):
    """A standing with single lines, in which ranks are alike now and then."""
    held = Standing(form)
    nodes = Nodes(form)
    for number in range(pushes):
        queue = chance.randrange(len(nodes.leaves))
        held.push(number, queue, tuple((wide * chance.randint(-spread, spread),) for _ in nodes.path(queue)))
        if chance.random() < 0.1:
            held.depart()
    return held


def sample():
    held = Standing(TWO)
    held.push(0, 0, ((0,), (0,)))
    held.push(1, 1, ((2,), (5,)))
    return held


def not_single():
    """Standings with a line that is not single, at each kind of node."""
    rows = []
    for ranks in (((), (1,)), ((1,), ()), ((1, 2), (1,)), ((1,), (1, 2)), ((BOUND,), (1,)), ((1,), (-BOUND,))):
        held = Standing(TWO)
        held.push(0, 0, ((5,), (5,)))
        held.push(1, 1, ranks)
        rows.append(held)
    return rows


def back_by_words(held, queue):
    nodes = Nodes(held.form_of())
    ranks = []
    for node in nodes.path(queue):
        line = held.line_of(node)
        if not line:
            ranks.append((0,))
        elif nodes.kids[node]:
            ranks.append((line[-1][0][0] + 2,))
        else:
            ranks.append((line[0][0][0] - 2,))
    return tuple(ranks)


class BackTest(unittest.TestCase):
    def test_by_the_words(self):
        chance = random.Random(2)
        for form in sample_shapes(queues=12):
            nodes = Nodes(form)
            for pushes in (0, 1, 9):
                held = single(form, chance, pushes)
                lines, order = held.all_lines(), held.order()
                for queue in range(len(nodes.leaves)):
                    ranks = back_ranks(standing=held, queue=queue)
                    self.assertEqual(ranks, back_by_words(held, queue))
                    twin = held.twin()
                    twin.push(99, queue, ranks)
                    here = [number for number in order if held.lies_at(number) == queue]
                    # At the end of the order comes a packet of the queue; the new one is the first of its queue.
                    self.assertEqual(twin.order()[-1], here[-1] if here else 99)
                    self.assertEqual(twin.line_of(nodes.leaves[queue])[0][1], 99)
                self.assertEqual(held.all_lines(), lines)

    def test_one_queue(self):
        held = Standing(())
        self.assertEqual(back_ranks(held, 0), ((0,),))
        held.push(0, 0, ((7,),))
        self.assertEqual(back_ranks(held, 0), ((5,),))

    def test_at_the_bound(self):
        held = Standing(TWO)
        held.push(0, 0, ((BOUND - 1,), (1 - BOUND,)))
        self.assertEqual(back_ranks(held, 0), ((BOUND + 1,), (-1 - BOUND,)))
        self.assertEqual(back_ranks(held, 1), ((BOUND + 1,), (0,)))

    def test_wrong_parameters(self):
        bad = NOT_STANDINGS + not_single()
        check_refusals(self, back_ranks, {"standing": sample(), "queue": 0},
                       {"standing": bad, "queue": NOT_NUMBERS + [2]})
        # All lines have to be single, not those of the path alone.
        held = Standing(PAIRS)
        held.push(0, 3, ((1,), (1,), ()))
        self.assertEqual(raised(back_ranks, held, 0), ("NotUsable", "standing", -1))
        self.assertEqual(raised(back_ranks, held, 9), ("NotUsable", "standing", -1))


class HopTest(unittest.TestCase):
    def hops(self, held):
        """All (queue, one, other) for which the words let there be ranks."""
        nodes = Nodes(held.form_of())
        order = held.order()
        for one, other in zip(order, order[1:]):
            here, there = held.lies_at(one), held.lies_at(other)
            if here != there:
                top = nodes.meet([here, there])
                kid = [kid for kid in nodes.kids[top] if here in nodes.held[kid]][0]
                for queue in nodes.held[kid]:
                    yield queue, one, other, top, kid

    def test_orders_places_and_gaps(self):
        chance = random.Random(13)
        hopped, without = 0, 0
        for form in sample_shapes(queues=9):
            nodes = Nodes(form)
            for wide in (10, 1):
                held = single(form, chance, 12, wide=wide)
                order = held.order()
                for queue, one, other, top, kid in self.hops(held):
                    path = nodes.path(queue)
                    upper = path[:path.index(kid)]
                    orders = {node: self.read(held, nodes, node) for node in path}
                    places = tuple(orders[node].index(other) + 1 for node in upper)
                    places += plain_places(held, queue, kid, orders[kid].index(one))
                    told = raised(ranks_at, held, queue, places, 2)
                    self.assertEqual(raised(hop_ranks, held, queue, one, other), told)
                    if told is not None:
                        without += 1
                        continue
                    hopped += 1
                    ranks = hop_ranks(standing=held, queue=queue, one=one, other=other)
                    self.assertEqual(ranks, ranks_at(held, queue, places, 2))
                    twin = held.twin()
                    twin.push(99, queue, ranks)
                    at = order.index(one)
                    self.assertEqual(twin.order(), order[:at] + (99, other, one) + order[at + 2:])
        self.assertGreater(hopped, 200)
        self.assertGreater(without, 50)

    def read(self, held, nodes, node):
        if not nodes.kids[node]:
            return [entry[1] for entry in held.line_of(node)]
        left = [self.read(held, nodes, kid) for kid in nodes.kids[node]]
        return [left[child].pop(0) for _, child in held.line_of(node)]

    def test_the_sequence_of_refusals(self):
        held = Standing(PAIRS)
        for number, queue in enumerate((0, 2, 1, 3, 3)):
            held.push(number, queue, ((10 * number,), (10 * number,), (10 * number,)))
        self.assertEqual(held.order(), (0, 1, 2, 3, 4))
        good = {"standing": held, "queue": 1, "one": 0, "other": 1}
        self.assertIsNone(raised(hop_ranks, **good))
        nowhere = Standing(PAIRS)
        nowhere.push(0, 0, ((), (1,), (1,)))
        bad = {
            "standing": NOT_STANDINGS + [nowhere],
            "queue": NOT_NUMBERS + [4],
            "one": NOT_PACKETS + [5],
            "other": NOT_PACKETS + [5, 0, 2, 3],
        }
        check_refusals(self, hop_ranks, good, bad)
        # A queue that is none stands ahead of packets; a queue in the wrong child behind them.
        self.assertEqual(raised(hop_ranks, held, 2, 9, 1), ("NotUsable", "one", -1))
        self.assertEqual(raised(hop_ranks, held, 2, 0, 2), ("NotUsable", "other", -1))
        self.assertEqual(raised(hop_ranks, held, 2, 0, 1), ("NotUsable", "queue", -1))
        self.assertEqual(raised(hop_ranks, held, 3, 0, 1), ("NotUsable", "queue", -1))
        # Right behind, but at the same queue.
        self.assertEqual(raised(hop_ranks, held, 3, 3, 4), ("NotUsable", "other", -1))
        self.assertEqual(raised(hop_ranks, held, 0, 1, 0), ("NotUsable", "other", -1))
        self.assertEqual(raised(hop_ranks, held, 0, True, 2), ("NotUsable", "one", -1))
        self.assertEqual(raised(hop_ranks, held, 0, 0, True), ("NotUsable", "other", -1))
        # All lines have to be single, also beside the path.
        held.push(9, 3, ((90,), (90,), (90, 1)))
        self.assertEqual(raised(hop_ranks, held, 1, 0, 1), ("NotUsable", "standing", -1))

    def test_no_gap_names_the_node(self):
        held = Standing(TWO)
        held.push(0, 0, ((0,), (0,)))
        held.push(1, 1, ((1,), (0,)))
        held.push(2, 0, ((2,), (1,)))
        self.assertEqual(raised(hop_ranks, held, 0, 0, 1), ("NoGap", 0))
        held = Standing(TWO)
        held.push(0, 0, ((0,), (0,)))
        held.push(1, 0, ((1,), (1,)))
        held.push(2, 1, ((9,), (0,)))
        self.assertEqual(raised(hop_ranks, held, 0, 1, 2), ("NoGap", 1))


class NeighboursTest(unittest.TestCase):
    def test_example(self):
        held = sample()
        self.assertEqual(neighbour_pushes(held, 1, 0), ((1, ((4,), (3,))), (0, ((6,), (-2,)))))
        self.assertEqual(neighbour_pushes(standing=held, one=0, other=1), ((0, ((4,), (-2,))), (1, ((6,), (3,)))))
        self.assertEqual(held.order(), (0, 1))

    def test_they_become_neighbours(self):
        chance = random.Random(19)
        done = 0
        for form in sample_shapes(queues=8):
            for _ in range(6):
                held = single(form, chance, 9)
                order = held.order()
                lines = held.all_lines()
                if len(order) < 2:
                    continue
                one, other = chance.sample(order, 2)
                here, there = held.lies_at(one), held.lies_at(other)
                if here == there:
                    self.assertEqual(raised(neighbour_pushes, held, one, other), ("NotUsable", "other", -1))
                    continue
                done += 1
                pushes = neighbour_pushes(held, one, other)
                self.assertEqual(held.all_lines(), lines)
                behind = [[n for n in order if held.lies_at(n) == held.lies_at(x)] for x in (one, other)]
                counts = [len(row) - 1 - row.index(x) for row, x in zip(behind, (one, other))]
                self.assertEqual([push[0] for push in pushes],
                                 [here, there] + [here] * counts[0] + [there] * counts[1])
                twin = held.twin()
                for number, (queue, ranks) in enumerate(pushes):
                    self.assertEqual(ranks, back_by_words(twin, queue))
                    twin.push(1000 + number, queue, ranks)
                after = twin.order()
                self.assertEqual(after.index(other), after.index(one) + 1)
                for place, number in enumerate(order):
                    if held.lies_at(number) not in (here, there):
                        self.assertEqual(after[place], number)
        self.assertGreater(done, 80)

    def test_integers_may_pass_the_bound(self):
        held = Standing(TWO)
        held.push(0, 0, ((BOUND - 1,), (1 - BOUND,)))
        held.push(1, 1, ((BOUND - 1,), (0,)))
        self.assertEqual(neighbour_pushes(held, 0, 1),
                         ((0, ((BOUND + 1,), (-BOUND - 1,))), (1, ((BOUND + 3,), (-2,)))))

    def test_wrong_parameters(self):
        held = sample()
        held.push(2, 0, ((8,), (8,)))
        check_refusals(self, neighbour_pushes, {"standing": held, "one": 0, "other": 1}, {
            "standing": NOT_STANDINGS + not_single(),
            "one": NOT_PACKETS + [3],
            "other": NOT_PACKETS + [3, 0, 2],
        })
        self.assertEqual(raised(neighbour_pushes, held, 3, 3), ("NotUsable", "one", -1))


class ConsequenceTest(unittest.TestCase):
    def test_an_answer_to_a_hop_comes_nearer(self):
        # [53]: whatever the chip does, if its order stays that of plain.
        chance = random.Random(37)
        seen = 0
        while seen < 150:
            plain = chance.choice([TWO, THREE, PAIRS, COMB, FLAT, SIX])
            chip = chance.choice([COMB, PAIRS, LONG, FLAT, (PAIRS, TWO), ((), COMB)])
            small, large = Nodes(plain), Nodes(chip)
            here, there = Standing(plain), Standing(chip)
            for number in range(chance.randint(2, 5)):
                queue = chance.randrange(len(small.leaves))
                here.push(number, queue, tuple((10 * number,) for _ in small.path(queue)))
                seat = chance.randrange(len(large.leaves))
                there.push(number, seat, tuple((10 * number,) for _ in large.path(seat)))
            order = here.order()
            self.assertEqual(order, there.order())
            for one, other in zip(order, order[1:]):
                for queue in range(len(small.leaves)):
                    if raised(hop_ranks, here, queue, one, other) is not None:
                        continue
                    twin = here.twin()
                    twin.push(99, queue, hop_ranks(here, queue, one, other))
                    top = large.meet([there.lies_at(one), there.lies_at(other)])
                    for _ in range(40):
                        seat = chance.randrange(len(large.leaves))
                        chip_twin = there.twin()
                        chip_twin.push(99, seat, tuple((chance.randint(-1, 45),) for _ in large.path(seat)))
                        if chip_twin.order() == twin.order():
                            seen += 1
                            self.assertIn(top, large.above[large.meet([seat, there.lies_at(one)])])


if __name__ == "__main__":
    unittest.main()
