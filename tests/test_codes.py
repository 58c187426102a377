"""[63], [64] and what [71] says of folded: codes, folded expressions, route tables."""

import random
import unittest

from nextbough.codes import folded, run_codes, section_codes
from nextbough.exprtexts import read_expr
from nextbough.freepolicies import free_policy
from nextbough.plans import Plan
from nextbough.policies import Policy
from nextbough.policytexts import read_policy
from nextbough.routetables import route_table
from nextbough.worths import worth_of
from support import (COMB, FLAT, LONG, MOST_WORTH, NOT_PLANS, PAIRS, THREE, TWO, Nodes, check_refusals, deep, raised,
                     random_parts, random_steps, random_tree, same_kinds, sample_plans, worked_by_words)

ONE = ("int", 1)
V = ("name", "v")
SIDES = {"+": 2, "-": 2, "*": 2, "max": 2, "min": 2, "if": 3, "less": 2, "same": 2, "part": 1, "rest": 1}


def codes_by_words(steps):
    rows = []

    def add(tree):
        for part in tree[1:1 + SIDES.get(tree[0], 0)]:
            add(part)
        if tree[0] in ("part", "rest"):
            rows.append((tree[0], tree[2]))
        else:
            rows.append(tree if tree[0] in ("int", "name") else (tree[0],))

    for step in steps:
        for tree in step[1] if step[0] == "rank" else step[2:]:
            add(tree)
        rows.append(("rank", len(step[1])) if step[0] == "rank" else step[:2])
    return tuple(rows)


class CodesTest(unittest.TestCase):
    def test_rows(self):
        steps = (("let", "a", read_expr("v + part(2, 3)")), ("set", "v", read_expr("if(a, 1, rank)")))
        self.assertEqual(section_codes(steps), (
            ("name", "v"), ("int", 2), ("part", 3), ("+",), ("let", "a"),
            ("name", "a"), ("int", 1), ("name", "rank"), ("if",), ("set", "v")))
        self.assertEqual(section_codes(steps=()), ())
        self.assertEqual(section_codes((("rank", (ONE, ("rest", V, 7))),)),
                         (("int", 1), ("name", "v"), ("rest", 7), ("rank", 2)))

    def test_by_the_words(self):
        chance = random.Random(141)
        nothing = 0
        for turn in range(400):
            is_out, great = turn % 2 == 0, turn % 5 == 0
            keeps = chance.sample(["v", "w", "x1"], chance.randint(0, 3))
            steps = random_steps(chance, keeps, is_out, great)
            rows = section_codes(steps=steps)
            self.assertTrue(same_kinds(rows, codes_by_words(steps)))
            names = keeps + ["class", "size", "stamp", "number", "f0", "f3", "rank"]
            table = {name: chance.choice([0, 1, -2, 9] + ([MOST_WORTH] if great else [])) for name in names}
            told = run_codes(rows=rows, names=tuple(table.items()))
            expected = worked_by_words(steps, table)
            nothing += expected is None
            self.assertTrue(same_kinds(told, expected), (steps, told, expected))
        self.assertGreater(nothing, 15)

    def test_run(self):
        rows = (("int", 4), ("let", "a"), ("name", "a"), ("name", "v"), ("*",), ("set", "v"), ("name", "v"), ("rank", 1))
        # A set changes nothing here; a let hides what names say of it.
        self.assertEqual(run_codes(rows, (("v", 3),)), ((3,), (("v", 12),)))
        self.assertEqual(run_codes(rows, (("v", 3), ("a", 9), ("f0", 1))), ((3,), (("v", 12),)))
        self.assertEqual(run_codes((), ()), ((), ()))
        twice = (("int", 1), ("set", "v"), ("int", 2), ("set", "v"))
        self.assertEqual(run_codes(twice, ()), ((), (("v", 1), ("v", 2))))
        great = (("name", "v"), ("int", 1), ("+",), ("let", "a"), ("int", 0), ("rank", 1))
        self.assertIsNone(run_codes(great, (("v", MOST_WORTH),)))
        both = (("int", 0), ("int", 1), ("name", "v"), ("int", 2), ("*",), ("if",), ("rank", 1))
        self.assertIsNone(run_codes(both, (("v", MOST_WORTH),)))

    def test_wrong_steps(self):
        rank = ("rank", (ONE,))
        bad = [None, True, 0, "", [], [rank], (rank, rank), (rank, ("let", "a", ONE)), (("rank", ()),), (("rank", [ONE]),),
               (("let", "a", ("name", "a")), rank), (("let", "size", ONE),), (("set", "rank", ONE),), (("keep", "a", ONE),),
               (("let", "a", ONE), ("let", "a", ONE)), (("let", "a", ONE), ("set", "a", ONE)), (None,), (("let", "a", 1),),
               # Only an out reads the rank, and it tells none.
               (("rank", (("name", "rank"),)),), (("let", "a", ("name", "rank")), rank), deep(80)]
        check_refusals(self, section_codes, {"steps": (rank,)}, {"steps": bad})

    def test_wrong_rows(self):
        good = (("name", "v"), ("int", 2), ("+",), ("let", "a"), ("name", "a"), ("rank", 1))
        bad = [None, True, 0, "", [], list(good), good[:1], good[1:], good[:2] + good[3:], good[:3], good[:5], good + good[-2:],
               good + (("int", 1),), good + (("int", 1), ("set", "v")), good[:3] + (["let", "a"],) + good[4:],
               good[:3] + (("let", "a", 0),) + good[4:], good[:3] + (("let",),) + good[4:], good[:3] + (("keep", "a"),) + good[4:],
               good[:3] + (("let", "v"),) + good[4:], good[:3] + (("let", "size"),) + good[4:], good[:3] + (("let", 1),) + good[4:],
               good[:3] + (("let", ["a"]),) + good[4:], good[:5] + (("rank", 2),), good[:5] + (("rank", True),), good[:5] + (("rank", 0),),
               good[:4] + (("name", "rank"), ("rank", 1)), good[:4] + (("int", True), ("rank", 1)), good[:4] + (("int", 2 ** 200), ("rank", 1)),
               good[:4] + (("int",), ("rank", 1)), good[:4] + (("name", "root"), ("rank", 1)), good[:2] + (("+", 1),) + good[3:],
               good[:2] + (("/",),) + good[3:], good[:2] + (("part", 2),) + good[3:], good[:1] + (("part",),) + good[3:],
               good[:1] + (("part", 0),) + good[3:], good[:1] + (("rest", True),) + good[3:], good[:1] + (("rest", -1),) + good[3:],
               (("rank", 0),), (("int", 1),) * 9 + (("rank", 9),), (("int", 1), ("let", "a"), ("int", 1), ("let", "a")),
               (("int", 1), ("let", "a"), ("int", 1), ("set", "a")), (("int", 1), ("set", "a"), ("int", 1), ("let", "a")),
               (("name", "a"), ("let", "b"), ("int", 1), ("let", "a")), (("name", "a"), ("let", "a")), (None,), ((),), ((1,),), ((["+"],),),
               (("int", 1), ("int", 2), ("let", "a"), ("rank", 1)), (("+",),), (("+",), ("int", 1)), (("keep", "a"), ("rank", 1)),
               (("-",), ("int", 1), ("rank", 1), ("int", 1)), (("name", 5), ("rank", 1)), (("name", ["a"]), ("rank", 1)), (("int", 1), ("if",), ("rank", 1)), deep(80)]
        names = [None, True, 0, "", [], (), (("w", 1),), [("v", 1)], (("v", 1), ("v", 1)), (("v", True),), (("v", 2 ** 200),), (("v",),),
                 (("v", 1), ("root", 1)), (("v", 1), None), (["v", 1],)]
        check_refusals(self, run_codes, {"rows": good, "names": (("v", 5),)}, {"rows": bad, "names": names})
        self.assertEqual(run_codes(good, (("v", 5),)), ((7,), ()))
        self.assertEqual(run_codes((("name", "rank"), ("set", "v")), (("rank", 5),)), ((), (("v", 5),)))
        eight = tuple(("int", k) for k in range(8)) + (("rank", 8),)
        self.assertEqual(run_codes(eight, ()), (tuple(range(8)), ()))


class FoldedTest(unittest.TestCase):
    def test_folded(self):
        rows = {
            "2 * 3 + 1": ("int", 7), "a + 2 * 3": ("+", ("name", "a"), ("int", 6)), "2 + a + 3": read_expr("2 + a + 3"),
            "if(1, a, 2 + 2)": ("if", ("int", 1), ("name", "a"), ("int", 4)), "if(1, 5, 6)": ("int", 5),
            "part(7 + 8, 2)": ("int", 7), "rest(-7, 3)": ("int", 2), "part(a * (1 + 1), 2)": ("part", ("*", ("name", "a"), ("int", 2)), 2),
            "max(1, min(2, 3))": ("int", 2), "less(1, 2) + same(1, 1) * a": ("+", ("int", 1), ("*", ("int", 1), ("name", "a"))),
            "5": ("int", 5), "a": ("name", "a"),
        }
        for text, tree in rows.items():
            self.assertTrue(same_kinds(folded(tree=read_expr(text)), tree), text)

    def test_what_is_no_worth_stays(self):
        great = ("*", ("int", MOST_WORTH), ("int", 2))
        self.assertEqual(folded(great), great)
        self.assertEqual(folded(("if", ONE, ("+", ONE, ONE), great)), ("if", ONE, ("int", 2), great))
        self.assertEqual(folded(("-", ("+", great, ("-", ONE, ONE)), ("+", ONE, ONE))),
                         ("-", ("+", great, ("int", 0)), ("int", 2)))
        self.assertEqual(folded(("+", ("int", MOST_WORTH), ("int", -MOST_WORTH))), ("int", 0))
        self.assertEqual(folded(("*", ("int", 0), great)), ("*", ("int", 0), great))

    def test_the_worth_stays_the_same(self):
        # [71]
        chance = random.Random(151)
        smaller = 0
        for turn in range(500):
            great = turn % 4 == 0
            tree = random_tree(chance, chance.randint(0, 5), ("a", "rank"), great)
            left = folded(tree)
            smaller += left != tree
            for worth in (0, -1, 12, MOST_WORTH):
                names = (("a", worth), ("rank", 3))
                self.assertEqual(worth_of(left, names), worth_of(tree, names))
            self.assertTrue(same_kinds(folded(left), left))
        self.assertGreater(smaller, 100)

    def test_wrong_parameters(self):
        bad = [None, True, 0, "", "a", (), [], ["int", 1], ("int", True), ("int", 2 ** 200), ("name", "root"), ("+", ONE), ("/", ONE, ONE),
               ("part", ONE, 0), ("+", ONE, None)]
        check_refusals(self, folded, {"tree": ONE}, {"tree": bad})


class RouteTableTest(unittest.TestCase):
    def test_an_example(self):
        policy = read_policy(free_policy(TWO))
        self.assertEqual(route_table(policy, Plan(TWO, LONG, (1, 0))),
                         ((1, (-1, -1, 0, 1)), (0, (-1, -1, 0, 1)), (0, (-1, -1, 0, 1))))
        alone = read_policy(free_policy(()))
        self.assertEqual(route_table(policy=alone, plan=Plan((), LONG, (2,))), ((2, (-1, 0)),) * 2)

    def test_by_the_words(self):
        chance = random.Random(161)
        for plan in sample_plans():
            policy = Policy(random_parts(chance, plan.plain_of()))
            small, large = Nodes(plan.plain_of()), Nodes(plan.chip_of())
            rows = []
            for _, queue, _ in policy.parts()[3]:
                path, image = small.path(queue), plan.image_of(queue)
                owners = [plan.owner_at(node) for node in large.path(image)]
                rows.append((image, tuple(-1 if owner == -1 else path.index(owner) for owner in owners)))
            self.assertTrue(same_kinds(route_table(policy, plan), tuple(rows)))

    def test_wrong_parameters(self):
        policy = read_policy(free_policy(TWO))
        plans = NOT_PLANS + [Plan((), LONG, (0,)), Plan(FLAT, PAIRS, (0, 1, 2, 3)), Plan(THREE, COMB, (0, 1, 2))]
        policies = [None, True, 0, "", (), [], policy.parts(), free_policy(TWO)]
        check_refusals(self, route_table, {"policy": policy, "plan": Plan(TWO, LONG, (1, 0))}, {"policy": policies, "plan": plans})
        self.assertEqual(raised(route_table, policy, policy), ("NotUsable", "plan", -1))


if __name__ == "__main__":
    unittest.main()
