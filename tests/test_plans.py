"""[38] to [41] and [44]: plans, ways, writing and reading, by the words of [6]."""

import random
import unittest

from nextbough.plans import Plan
from nextbough.reading import follows_plan, move_standing, read_standing
from nextbough.standingmakers import standing_of
from nextbough.standings import Standing
from nextbough.ways import way_of
from nextbough.writing import write_standing
from support import (COMB, FLAT, LONG, NOT_IMAGES, NOT_NUMBERS, NOT_PLAIN, NOT_PLANS, NOT_SHAPES, NOT_STANDINGS, PAIRS,
                     THREE, TWO, Nodes, check_refusals, fill, raised, random_ranks, same_kinds, sample_plans)

EXAMPLE = Plan(TWO, LONG, (1, 0))
NOT_WAY_RANKS = [None, True, 0, "", [], (), ((),), ((), (), ()), [(), ()], ((), []), ((), (True,)), ((1,) * 9, ()),
                 ((), (2 ** 200,))]


class Words:
    """A plan by the words of the definitions."""

    def __init__(self, plan):
        self.images = plan.images_of()
        self.small = Nodes(plan.plain_of())
        self.large = Nodes(plan.chip_of())
        self.tops = [self.large.meet([self.images[queue] for queue in held]) for held in self.small.held]

    def within(self, node, top):
        return node == top or top in self.large.above[node]

    def beneath(self, node, top):
        return top in self.large.above[node]

    def used(self, node):
        return any(image in self.large.held[node] for image in self.images)

    def owner(self, node):
        if not self.used(node):
            return None
        if self.beneath(self.tops[0], node):
            return -1
        fits = [
            low
            for low, held in enumerate(self.small.held)
            if self.within(node, self.tops[low]) and any(self.images[queue] in self.large.held[node] for queue in held)
        ]
        deepest = max(len(self.small.above[low]) for low in fits)
        return next(low for low in fits if len(self.small.above[low]) == deepest)

    def toward(self, node, down):
        return next(place for place, kid in enumerate(self.large.kids[node]) if self.within(down, kid))

    def written(self, lines, many):
        made = []
        for node in range(len(self.large.shapes)):
            owner = self.owner(node)
            if owner is None:
                made.append(())
            elif owner == -1:
                made.append((((), self.toward(node, self.tops[0])),) * many)
            elif not self.small.kids[owner]:
                made.append(lines[owner])
            else:
                row = []
                for rank, child in lines[owner]:
                    top = self.tops[self.small.kids[owner][child]]
                    if self.beneath(top, node):
                        row.append((rank, self.toward(node, top)))
                made.append(tuple(row))
        return tuple(made)

    def unwritten(self, lines):
        """The least node where (G6) is broken, or None."""
        for node in range(len(self.large.shapes)):
            owner = self.owner(node)
            if owner is None or owner != -1 and not self.small.kids[owner]:
                continue
            if owner == -1:
                if any(entry != ((), self.toward(node, self.tops[0])) for entry in lines[node]):
                    return node
                continue
            kids = self.large.kids[node]
            if any(not self.used(kids[child]) for _, child in lines[node]):
                return node
            if node != self.tops[owner]:
                above = self.large.above[node][-1]
                ranks = [rank for rank, child in lines[above] if self.large.kids[above][child] == node]
                if ranks != [rank for rank, _ in lines[node]]:
                    return node
        return None


class PlanTest(unittest.TestCase):
    def test_example(self):
        self.assertEqual((EXAMPLE.top_at(0), EXAMPLE.top_at(1), EXAMPLE.top_at(2)), (2, 4, 3))
        self.assertEqual([EXAMPLE.owner_at(node) for node in range(6)], [-1, -1, 0, 2, 1, None])
        self.assertEqual(Plan((), LONG, (2,)).owner_at(0), -1)

    def test_one_queue(self):
        plan = Plan((), LONG, (2,))
        self.assertEqual([plan.owner_at(node) for node in range(6)], [-1, None, None, None, None, 0])
        self.assertEqual((plan.top_at(0), plan.image_of(0)), (5, 2))
        alone = Plan((), (), (0,))
        self.assertEqual((alone.owner_at(0), alone.top_at(0)), (0, 0))

    def test_forks_of_one_child_above_and_below_a_top(self):
        # Node 0 and 1 are above the top 2; nodes 3 and 4 are forks between the top and a queue.
        plan = Plan(TWO, (((((),),), ()),), (0, 1))
        self.assertEqual([plan.owner_at(node) for node in range(6)], [-1, 0, 0, 0, 1, 2])
        plan = Plan(THREE, ((((((), ()),), ()),),), (1, 0, 2))
        self.assertEqual([plan.owner_at(node) for node in range(8)], [-1, -1, 0, 0, 1, 3, 2, 4])

    def test_parts_and_owners_by_the_words(self):
        for plan in sample_plans():
            words = Words(plan)
            self.assertTrue(same_kinds((plan.plain_of(), plan.chip_of()), (words.small.shapes[0], words.large.shapes[0])))
            for node, top in enumerate(words.tops):
                self.assertEqual(plan.top_at(node), top)
                # [44]: the owner of the top of a node is this node.
                self.assertEqual(plan.owner_at(node=top), node)
            for node in range(len(words.large.shapes)):
                self.assertTrue(same_kinds(plan.owner_at(node), words.owner(node)))
            for queue, image in enumerate(words.images):
                self.assertEqual(plan.image_of(queue=queue), image)

    def test_by_name(self):
        plan = Plan(images=(0, 1), chip=TWO, plain=TWO)
        self.assertEqual(plan.images_of(), (0, 1))
        self.assertEqual(plan.top_at(node=2), 2)

    def test_wrong_parameters(self):
        good = {"plain": TWO, "chip": LONG, "images": (1, 0)}
        check_refusals(self, Plan, good, {"plain": NOT_PLAIN, "chip": NOT_SHAPES, "images": NOT_IMAGES})
        self.assertEqual(raised(Plan, THREE, COMB, (0, 2, 1)), ("NotUsable", "images", -1))
        for value in NOT_NUMBERS + [2]:
            self.assertEqual(raised(EXAMPLE.image_of, value), ("NotUsable", "queue", -1))
        for value in NOT_NUMBERS + [3]:
            self.assertEqual(raised(EXAMPLE.top_at, value), ("NotUsable", "node", -1))
        for value in NOT_NUMBERS + [6]:
            self.assertEqual(raised(EXAMPLE.owner_at, node=value), ("NotUsable", "node", -1))


class WayTest(unittest.TestCase):
    def test_example(self):
        self.assertEqual(way_of(EXAMPLE, 0, ((4,), (7, 1))), (1, ((), (), (4,), (7, 1))))

    def test_by_the_words(self):
        chance = random.Random(3)
        for plan in sample_plans():
            words = Words(plan)
            for queue, image in enumerate(words.images):
                path = words.small.path(queue)
                ranks = random_ranks(chance, len(path))
                told = tuple(
                    () if words.owner(node) == -1 else ranks[path.index(words.owner(node))]
                    for node in words.large.path(image)
                )
                self.assertEqual(way_of(plan=plan, queue=queue, ranks=ranks), (image, told))

    def test_wrong_parameters(self):
        good = {"plan": EXAMPLE, "queue": 0, "ranks": ((4,), ())}
        bad = {"plan": NOT_PLANS, "queue": NOT_NUMBERS + [2], "ranks": NOT_WAY_RANKS}
        check_refusals(self, way_of, good, bad)


class WritingTest(unittest.TestCase):
    def sample(self):
        here = Standing(TWO)
        here.push(8, 0, ((4,), (7, 1)))
        here.push(9, 1, ((4,), ()))
        return here

    WRITTEN = ((((), 0), ((), 0)), (((), 0), ((), 0)), (((4,), 1), ((4,), 0)), (((), 9),), (((7, 1), 8),), ())

    def test_examples(self):
        here = self.sample()
        there = write_standing(EXAMPLE, here)
        self.assertEqual(there.all_lines(), self.WRITTEN)
        self.assertEqual(there.form_of(), LONG)
        self.assertEqual(read_standing(EXAMPLE, there).all_lines(), ((((4,), 0), ((4,), 1)), (((7, 1), 8),), (((), 9),)))
        self.assertTrue(here.same_as(self.sample()))
        moved = move_standing(EXAMPLE, there, Plan(TWO, TWO, (0, 1)))
        self.assertEqual(moved.all_lines(), ((((4,), 0), ((4,), 1)), (((7, 1), 8),), (((), 9),)))
        odd = Standing(LONG)
        odd.push(8, 1, ((), (6,), (4,), (7,)))
        self.assertIs(follows_plan(EXAMPLE, odd), False)
        self.assertEqual(raised(read_standing, EXAMPLE, odd), ("Unwritten", 1))
        odd.push(9, 2, ((), ()))
        self.assertEqual(raised(read_standing, EXAMPLE, odd), ("Unwritten", 0))
        self.assertEqual(raised(move_standing, EXAMPLE, odd, EXAMPLE), ("Unwritten", 0))

    def test_written_and_read_back_by_the_words(self):
        chance = random.Random(4)
        for plan in sample_plans():
            words = Words(plan)
            for pushes in (0, 1, 14):
                here = fill(Standing(plan.plain_of()), chance, pushes)
                lines = here.all_lines()
                there = write_standing(plan=plan, standing=here)
                self.assertEqual(there.all_lines(), words.written(lines, here.many_present()))
                self.assertIs(type(there), Standing)
                self.assertEqual((there.present(), there.order()), (here.present(), here.order()))
                self.assertIs(follows_plan(plan=plan, standing=there), True)
                back = read_standing(plan=plan, standing=there)
                self.assertTrue(back.same_as(here))
                self.assertEqual((back.present(), back.order()), (here.present(), here.order()))
                self.assertEqual(here.all_lines(), lines)

    def test_pushes_and_departures_commute_with_writing(self):
        # [44]
        chance = random.Random(9)
        for plan in sample_plans(25):
            words = Words(plan)
            here = fill(Standing(plan.plain_of()), chance, 8)
            there = write_standing(plan, here)
            for number in range(100, 112):
                queue = chance.randrange(len(words.images))
                ranks = random_ranks(chance, len(words.small.path(queue)))
                here.push(number, queue, ranks)
                there.push(number, *way_of(plan, queue, ranks))
                self.assertTrue(write_standing(plan, here).same_as(there))
                if chance.random() < 0.5:
                    one, other = here.depart(), there.depart()
                    self.assertEqual(one[0], other[0])
                    path = words.small.path(one[1])
                    tops = [words.large.path(other[1]).index(words.tops[node]) for node in path]
                    self.assertEqual(one[2], tuple(other[2][place] for place in tops))
                    self.assertTrue(write_standing(plan, here).same_as(there))
            self.assertTrue(read_standing(plan, there).same_as(here))

    def test_what_comes_out_is_new(self):
        here = self.sample()
        there = write_standing(EXAMPLE, here)
        back = read_standing(EXAMPLE, there)
        there.depart()
        back.push(1, 0, ((), ()))
        self.assertTrue(here.same_as(self.sample()))
        self.assertEqual(there.order(), (9,))

    def test_standings_that_follow_no_plan(self):
        # At owners -1, tops, forks between, and queues; the least node by (G6).
        chance = random.Random(6)
        nodes_seen, followed = {}, 0
        for plan in sample_plans(60):
            words = Words(plan)
            for _ in range(12):
                there = fill(Standing(plan.chip_of()), chance, chance.randint(1, 4), spread=1)
                node = words.unwritten(there.all_lines())
                self.assertIs(follows_plan(plan, there), node is None)
                if node is None:
                    followed += 1
                    self.assertTrue(write_standing(plan, read_standing(plan, there)).same_as(there))
                else:
                    self.assertEqual(raised(read_standing, plan, there), ("Unwritten", node))
                    self.assertEqual(raised(move_standing, plan, there, plan), ("Unwritten", node))
                    kind = "above" if words.owner(node) == -1 else "top" if node in words.tops else "between"
                    nodes_seen[kind] = nodes_seen.get(kind, 0) + 1
        self.assertGreater(min(nodes_seen["above"], nodes_seen["top"], nodes_seen["between"], followed), 20)

    def test_one_fault_in_what_is_written(self):
        # A rank at a fork between, or at a node above the top, or an entry for a queue that is no image.
        plan = Plan(TWO, (((((), ()),), ()),), (0, 2))
        words = Words(plan)
        self.assertEqual([plan.owner_at(node) for node in range(7)], [-1, 0, 0, 0, 1, None, 2])
        good = write_standing(plan, self.sample()).all_lines()
        self.assertIsNone(words.unwritten(good))
        faults = {
            0: ((((), 0), ((0,), 0)),) + good[1:],
            2: good[:2] + ((((5,), 0),),) + good[3:],
            3: good[:3] + ((((5,), 0),),) + good[4:],
        }
        for node, lines in faults.items():
            self.assertEqual(raised(read_standing, plan, standing_of(plan.chip_of(), lines)), ("Unwritten", node))
        astray = Standing(plan.chip_of())
        astray.push(1, 1, ((), (3,), (3,), (3,), ()))
        self.assertEqual(raised(read_standing, plan, astray), ("Unwritten", 3))
        fine = Standing(plan.chip_of())
        fine.push(1, 0, ((), (3,), (3,), (3,), (9, 9)))
        self.assertTrue(follows_plan(plan, fine))
        two = good[:3] + ((((4,), 0),), (((1,), 8),)) + good[5:]
        self.assertTrue(follows_plan(plan, standing_of(plan.chip_of(), two)))

    def test_moving(self):
        chance = random.Random(8)
        plans = sample_plans(60)
        moved = 0
        for plan in plans:
            for other in plans:
                if plan.plain_of() == other.plain_of():
                    here = fill(Standing(plan.plain_of()), chance, 6)
                    there = move_standing(plan=plan, standing=write_standing(plan, here), other=other)
                    self.assertTrue(there.same_as(write_standing(other, here)))
                    moved += 1
        self.assertGreater(moved, 60)

    def test_wrong_parameters(self):
        here, there = self.sample(), write_standing(EXAMPLE, self.sample())
        check_refusals(self, write_standing, {"plan": EXAMPLE, "standing": here},
                       {"plan": NOT_PLANS, "standing": NOT_STANDINGS + [there, Standing(THREE)]})
        for call in (follows_plan, read_standing):
            check_refusals(self, call, {"plan": EXAMPLE, "standing": there},
                           {"plan": NOT_PLANS, "standing": NOT_STANDINGS + [here, Standing(COMB)]})
        check_refusals(self, move_standing, {"plan": EXAMPLE, "standing": there, "other": Plan(TWO, TWO, (0, 1))},
                       {"plan": NOT_PLANS, "standing": NOT_STANDINGS + [here],
                        "other": NOT_PLANS + [Plan(FLAT, PAIRS, (0, 1, 2, 3)), Plan((), LONG, (0,))]})
        # What is no plan is told ahead of a standing that does not follow the first one.
        odd = Standing(LONG)
        odd.push(8, 1, ((), (6,), (4,), (7,)))
        self.assertEqual(raised(move_standing, EXAMPLE, odd, None), ("NotUsable", "other", -1))


if __name__ == "__main__":
    unittest.main()
