"""[26] and what [28] says of it: ranks and places for a wished place."""

import random
import unittest

from nextbough.entrylines import put_place
from nextbough.insertings import plain_places, rank_at, ranks_at
from nextbough.orders import order_of, place_of
from nextbough.standings import Standing
from support import (COMB, LONG, NOT_LINES, NOT_NUMBERS, NOT_STANDINGS, THREE, TWO, Nodes, check_refusals, fill,
                     raised, sample_shapes)

MOST = 2 ** 199 - 1
NOT_GAPS = NOT_NUMBERS + [0, 1, 2 ** 80 + 1, -2]


def single_line(*numbers):
    return tuple(((number,), "x") for number in numbers)


def spread_out(standing, chance, pushes):
    """Packets whose ranks are single and, in each line, all different and far apart."""
    nodes = Nodes(standing.form_of())
    for number in range(pushes):
        queue = chance.randrange(len(nodes.leaves))
        standing.push(number, queue, tuple((chance.randint(-2 ** 60, 2 ** 60),) for _ in nodes.path(queue)))
    return standing


class RankAtTest(unittest.TestCase):
    def test_example(self):
        self.assertEqual(rank_at((((2,), 0), ((5,), 1)), 1, 4), (3,))

    def test_places(self):
        line = single_line(-7, 2, 2, 3, 5, 8)
        self.assertEqual(rank_at((), 0, 2), (0,))
        self.assertEqual(rank_at(line, 0, 3), (-10,))
        self.assertEqual(rank_at(line, 6, 2), (10,))
        self.assertEqual(rank_at(line, 1, 2), (-3,))
        self.assertEqual(rank_at(line, 4, 2), (4,))
        self.assertEqual(rank_at(line, 5, 2), (6,))
        for place in (2, 3):
            self.assertEqual(raised(rank_at, line, place, 2), ("NoGap", -1))
        self.assertEqual(rank_at(single_line(-4, -1), 1, 2), (-3,))
        self.assertEqual(rank_at(line=line, place=0, gap=2 ** 80), (-7 - 2 ** 80,))

    def test_bounds_of_single_lines(self):
        line = single_line(-MOST, MOST)
        self.assertEqual(rank_at(line, 0, 2), (-MOST - 2,))
        self.assertEqual(rank_at(line, 2, 2 ** 80), (MOST + 2 ** 80,))
        self.assertEqual(rank_at(line, 1, 2), (0,))
        for number in (2 ** 199, -2 ** 199):
            self.assertEqual(raised(rank_at, single_line(number), 0, 2), ("NotUsable", "line", -1))

    def test_the_rank_leads_to_the_place(self):
        chance = random.Random(3)
        for _ in range(200):
            line = single_line(*sorted(chance.randint(-20, 20) for _ in range(chance.randint(0, 8))))
            for place in range(len(line) + 1):
                told = raised(rank_at, line, place, 5)
                if 0 < place < len(line) and line[place][0][0] - line[place - 1][0][0] < 2:
                    self.assertEqual(told, ("NoGap", -1))
                else:
                    self.assertEqual(put_place(line, rank_at(line, place, 5)), place)

    def test_wrong_parameters(self):
        line = single_line(1, 5)
        check_refusals(self, rank_at, {"line": line, "place": 1, "gap": 2}, {
            "line": NOT_LINES + [(((), 0),), (((1, 2), 0),), (((1,), 0), ((1, 0), 0)), single_line(5, 1)],
            "place": NOT_NUMBERS + [3], "gap": NOT_GAPS,
        })
        self.assertEqual(raised(rank_at, single_line(1, 2), 1, 1), ("NotUsable", "gap", -1))
        self.assertEqual(raised(rank_at, (), 1, 2), ("NotUsable", "place", -1))


class RanksAtTest(unittest.TestCase):
    def test_as_rank_at_tells(self):
        chance = random.Random(5)
        for form in sample_shapes(queues=16):
            held = spread_out(Standing(form), chance, 8)
            nodes = Nodes(form)
            for queue in range(len(nodes.leaves)):
                path = nodes.path(queue)
                places = tuple(chance.randint(0, len(held.line_of(node))) for node in path)
                ranks = tuple(rank_at(held.line_of(node), place, 9) for node, place in zip(path, places))
                self.assertEqual(ranks_at(held, queue, places, 9), ranks)
                again = held.twin()
                again.push(99, queue, ranks)
                for node, place, rank in zip(path, places, ranks):
                    self.assertEqual(again.line_of(node)[place][0], rank)

    def test_no_gap(self):
        held = Standing(THREE)
        for number in range(2):
            held.push(number, 0, ((number * 9,), (number,), (4,)))
        self.assertEqual(raised(ranks_at, held, 0, (1, 1, 1), 2), ("NoGap", 1))
        self.assertEqual(raised(ranks_at, held, 1, (1, 1, 0), 2), ("NoGap", 1))
        self.assertEqual(raised(ranks_at, held, 0, (2, 2, 1), 2), ("NoGap", 2))
        self.assertEqual(ranks_at(held, 2, (1, 0), 2), ((4,), (0,)))
        self.assertEqual(ranks_at(standing=held, queue=0, places=(0, 2, 2), gap=3), ((-3,), (4,), (7,)))

    def test_lines_that_are_not_single(self):
        held = Standing(LONG)
        held.push(1, 2, ((1,), (2, 3)))
        self.assertEqual(raised(ranks_at, held, 2, (0, 0), 2), ("NotUsable", "standing", -1))
        # Only the lines of the path are looked at, and not if queue is none.
        self.assertEqual(ranks_at(held, 0, (0, 0, 0, 0), 2), ((-1,), (0,), (0,), (0,)))
        self.assertEqual(raised(ranks_at, held, 3, (0, 0), 2), ("NotUsable", "queue", -1))
        self.assertEqual(raised(ranks_at, held, True, None, None), ("NotUsable", "queue", -1))
        self.assertEqual(raised(ranks_at, held, 2, None, None), ("NotUsable", "standing", -1))
        for rank in ((), (2 ** 199,), (-2 ** 199,)):
            held = Standing(())
            held.push(1, 0, (rank,))
            self.assertEqual(raised(ranks_at, held, 0, (0,), 1), ("NotUsable", "standing", -1))

    def test_wrong_parameters(self):
        held = spread_out(Standing(TWO), random.Random(1), 3)
        many = len(held.line_of(2))
        bad_places = [None, True, 0, "", [], [0, 0], (), (0,), (0, 0, 0), (0, True), (False, 0), (-1, 0), (4, 0),
                      (0, many + 1), (0, None)]
        check_refusals(self, ranks_at, {"standing": held, "queue": 1, "places": (0, 0), "gap": 2}, {
            "standing": NOT_STANDINGS, "queue": NOT_NUMBERS + [2], "places": bad_places, "gap": NOT_GAPS,
        })


class PlainPlacesTest(unittest.TestCase):
    def test_a_new_packet_comes_to_the_place(self):
        chance = random.Random(7)
        for form in sample_shapes(queues=10):
            held = spread_out(Standing(form), chance, 9)
            nodes = Nodes(form)
            for queue in range(len(nodes.leaves)):
                path = nodes.path(queue)
                for at, node in enumerate(path):
                    order = order_of(held, node)
                    place = chance.randint(0, len(order))
                    places = plain_places(held, queue, node, place)
                    self.assertEqual(len(places), len(path) - at)
                    ends = tuple(len(held.line_of(top)) for top in path[:at])
                    again = held.twin()
                    again.push(99, queue, ranks_at(held, queue, ends + places, 2))
                    self.assertEqual(place_of(again, node, 99), place)
                    self.assertEqual(order_of(again, node), order[:place] + (99,) + order[place:])

    def test_by_the_words_with_any_ranks(self):
        chance = random.Random(8)
        for form in sample_shapes(queues=10):
            held = fill(Standing(form), chance, 12)
            nodes = Nodes(form)
            for queue in range(len(nodes.leaves)):
                path = nodes.path(queue)
                node = chance.choice(path)
                place = chance.randint(0, len(held.line_of(node)))
                expected = [place]
                for above, below in zip(path[path.index(node):], path[path.index(node) + 1:]):
                    child = nodes.kids[above].index(below)
                    ahead = held.line_of(above)[: expected[-1]]
                    expected.append(len([item for _, item in ahead if item == child]))
                self.assertEqual(plain_places(held, queue, node, place), tuple(expected))

    def test_edges(self):
        self.assertEqual(plain_places(Standing(()), 0, 0, 0), (0,))
        self.assertEqual(plain_places(standing=Standing(COMB), queue=1, node=1, place=0), (0, 0, 0))

    def test_wrong_parameters(self):
        held = Standing(THREE)
        held.push(1, 0, ((1,), (1,), (1,)))
        held.push(2, 2, ((1,), (1,)))
        check_refusals(self, plain_places, {"standing": held, "queue": 0, "node": 1, "place": 1}, {
            "standing": NOT_STANDINGS, "queue": NOT_NUMBERS + [3], "node": NOT_NUMBERS + [3, 4, 5],
            "place": NOT_NUMBERS + [2],
        })
        self.assertEqual(raised(plain_places, held, 0, True, 0), ("NotUsable", "node", -1))
        self.assertEqual(raised(plain_places, held, 0, False, 0), ("NotUsable", "node", -1))


if __name__ == "__main__":
    unittest.main()
