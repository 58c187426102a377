"""[65] and (G8): policies on chips, beside the policies on their own trees."""

import random
import unittest

from nextbough.chiprunners import ChipRunner
from nextbough.disciplines import discipline_policy
from nextbough.freepolicies import free_policy
from nextbough.layingcounts import count_layings
from nextbough.layingnumbers import nth_laying
from nextbough.plans import Plan
from nextbough.policies import Policy
from nextbough.policytexts import read_policy
from nextbough.runners import Runner
from nextbough.standings import Standing
from nextbough.writing import write_standing
from support import (COMB, FLAT, LONG, MOST_WORTH, NOT_FACTS, NOT_PLANS, NOT_POLICIES, PAIRS, THREE, TWO, Nodes,
                     check_refusals, raised, random_discipline, random_parts, random_shape, run_alike,
                     same_kinds, sample_plans)

FACTS = (0, 5, 0, ())


def some_plan(chance, plain, more=3):
    """A plan of the shape on a chip with some queues more, or None."""
    chip = random_shape(chance, len(Nodes(plain).leaves) + chance.randint(0, more), False, 6)
    total = count_layings(plain, chip)
    return Plan(plain, chip, nth_laying(plain, chip, chance.randrange(total))) if total else None


class ChipRunnerTest(unittest.TestCase):
    def check_standings(self, run, plain, plan):
        here = plain.standing_of_now()
        self.assertTrue(run.read_back().same_as(here))
        self.assertTrue(run.chip_standing().same_as(write_standing(plan, here)))

    def check_beside(self, policy, plan, chance, great):
        plain, run = Runner(policy), ChipRunner(policy=policy, plan=plan)
        self.check_standings(run, plain, plan)
        refused = 0
        for _ in range(6):
            refused += run_alike(self, plain, run, chance, 5, great)
            self.check_standings(run, plain, plan)
        while plain.order():
            self.assertEqual(run.depart(), plain.depart())
            self.assertEqual(run.keeps_now(), plain.keeps_now())
        self.assertTrue(same_kinds((run.depart(), run.order(), run.taken()), (None, (), plain.taken())))
        return refused

    def test_beside_the_plain_runner(self):
        chance = random.Random(211)
        refused = 0
        for turn, plan in enumerate(sample_plans(60, seed=17, most=6)):
            great = turn % 3 == 0
            policy = Policy(random_parts(chance, plan.plain_of(), great))
            refused += self.check_beside(policy, plan, chance, great)
        self.assertGreater(refused, 50)

    def test_disciplines_on_chips(self):
        chance = random.Random(212)
        tried = 0
        while tried < 25:
            policy = read_policy(discipline_policy(random_discipline(chance, chance.randint(1, 6))))
            plan = some_plan(chance, policy.shape_of())
            if plan is not None:
                tried += 1
                self.check_beside(policy, plan, chance, False)

    def test_nothing_present(self):
        run = ChipRunner(read_policy(free_policy(TWO)), Plan(TWO, LONG, (1, 0)))
        self.assertIsNone(run.depart())
        self.assertEqual((run.order(), run.taken()), ((), 0))
        self.assertTrue(run.chip_standing().same_as(Standing(LONG)))
        self.assertTrue(run.read_back().same_as(Standing(TWO)))

    def test_lines_on_the_chip(self):
        run = ChipRunner(read_policy(free_policy(TWO)), Plan(TWO, LONG, (1, 0)))
        self.assertEqual(run.arrive((0, 1, 0, (4, 7))), 0)
        self.assertEqual(run.arrive((1, 1, 0, (4, -2))), 1)
        self.assertEqual(run.chip_standing().all_lines(), (
            (((), 0), ((), 0)), (((), 0), ((), 0)), (((4,), 1), ((4,), 0)), (((-2,), 1),), (((7,), 0),), ()))
        self.assertEqual(run.read_back().all_lines(), ((((4,), 0), ((4,), 1)), (((7,), 0),), (((-2,), 1),)))
        self.assertEqual((run.depart(), run.depart(), run.depart()), (0, 1, None))

    def test_an_out_is_told_the_rank_at_its_own_node(self):
        # On a chip that is deeper than the policy's tree the ranks stand at other depths.
        lines = ["root k", "tree k (a b)", "class 0 a", "class * b", "at k", "  keep v 0", "  in a", "    rank f0", "  in b",
                 "    rank f0", "  out", "    set v rank", "at a", "  keep w 0", "  in", "    rank f1", "  out", "    set w rank",
                 "at b", "  keep w 0", "  in", "    rank f1", "  out", "    set w rank * 10"]
        for chip, images in ((((((), ()),),), (1, 0)), ((((((), ((),)), ()),),), (1, 0))):
            run = ChipRunner(read_policy("\n".join(lines)), Plan(TWO, chip, images))
            run.arrive((0, 1, 0, (5, 8)))
            run.arrive((1, 1, 0, (6, 9)))
            self.assertEqual(run.depart(), 0)
            self.assertEqual(run.keeps_now(), (("k", (("v", 5),)), ("a", (("w", 8),)), ("b", (("w", 0),))))
            self.assertEqual(run.depart(), 1)
            self.assertEqual(run.keeps_now(), (("k", (("v", 6),)), ("a", (("w", 8),)), ("b", (("w", 90),))))

    def test_a_refused_packet_changes_nothing(self):
        text = free_policy(PAIRS).replace("rank f1", "rank f1 + f1")
        run = ChipRunner(read_policy(text), Plan(PAIRS, (PAIRS, ()), (3, 2, 0, 1)))
        run.arrive((0, 1, 0, (1, 2, 3)))
        before = run.chip_standing()
        self.assertEqual(raised(run.arrive, (2, 1, 0, (0, MOST_WORTH, 0))), ("TooGreat", "n4"))
        self.assertTrue(run.chip_standing().same_as(before))
        self.assertEqual((run.taken(), run.arrive(FACTS)), (1, 1))

    def test_what_is_handed_out_is_new(self):
        policy = read_policy(free_policy(TWO))
        plan = Plan(TWO, LONG, (1, 0))
        run, beside = ChipRunner(policy, plan), ChipRunner(policy, plan)
        run.arrive(FACTS)
        chip, back = run.chip_standing(), run.read_back()
        chip.depart()
        back.depart()
        self.assertEqual((run.order(), beside.order(), beside.taken()), ((0,), (), 0))
        self.assertEqual((run.chip_standing().many_present(), run.read_back().many_present()), (1, 1))

    def test_wrong_parameters(self):
        policy = read_policy(free_policy(TWO))
        plans = NOT_PLANS + [Plan((), LONG, (0,)), Plan(FLAT, PAIRS, (0, 1, 2, 3)), Plan(THREE, COMB, (0, 1, 2))]
        check_refusals(self, ChipRunner, {"policy": policy, "plan": Plan(TWO, LONG, (1, 0))},
                       {"policy": NOT_POLICIES, "plan": plans})
        run = ChipRunner(policy, Plan(TWO, LONG, (1, 0)))
        check_refusals(self, run.arrive, {"facts": FACTS}, {"facts": NOT_FACTS})
        self.assertEqual((run.taken(), run.order()), (0, ()))

    def test_two_thousand_packets(self):
        run = ChipRunner(read_policy(free_policy(TWO)), Plan(TWO, LONG, (1, 0)))
        for number in range(2000):
            run.arrive((number & 1, 1, 0, (-number, number)))
        self.assertEqual(run.order()[:2], (1, 0))
        self.assertEqual([run.depart() for _ in range(3)], [1, 0, 3])


if __name__ == "__main__":
    unittest.main()
