"""[60] to [62]: policies at work, by the words of [8], and free policies."""

import random
import unittest

from nextbough.freepolicies import free_facts, free_policy
from nextbough.policies import Policy
from nextbough.policytexts import read_policy
from nextbough.runners import Runner
from nextbough.standings import Standing
from support import (MOST_WORTH, NOT_FACTS, NOT_NUMBERS, NOT_PLAIN, NOT_POLICIES, PAIRS, TWO, Nodes, Words, check_refusals,
                     raised, random_facts, random_parts, same_kinds, sample_shapes)

EXAMPLE = "root q\nclass * q\nat q\n  keep v 0\n  in\n    set v v + 1\n    rank 0 - v\n  out\n    set v rank"
FACTS = (0, 5, 0, ())


class RunnerTest(unittest.TestCase):
    def test_example(self):
        run = Runner(read_policy(EXAMPLE))
        told = run.arrive((0, 5, 0, ())), run.arrive((0, 7, 0, ())), run.depart(), run.keeps_now()
        self.assertEqual(told, (0, 1, 1, (("q", (("v", -1),)),)))

    def check_state(self, run, words):
        self.assertTrue(run.standing_of_now().same_as(words.held))
        self.assertEqual(run.order(), words.held.order())
        self.assertTrue(same_kinds(run.keeps_now(), words.keeps_now()))
        self.assertTrue(same_kinds(run.taken(), words.many))

    def test_by_the_words(self):
        chance = random.Random(121)
        refused = departed = changed = 0
        for turn in range(90):
            great = turn % 3 == 0
            parts = random_parts(chance, great=great)
            run, words = Runner(policy=Policy(parts)), Words(parts)
            self.check_state(run, words)
            for _ in range(25):
                if chance.random() < 0.4:
                    before = words.keeps_now()
                    gone = words.depart()
                    self.assertEqual(run.depart(), gone)
                    departed += gone is not None
                    changed += before != words.keeps_now()
                else:
                    facts = random_facts(chance, great)
                    told = words.arrive(facts)
                    if isinstance(told, tuple):
                        refused += 1
                        self.assertEqual(raised(run.arrive, facts=facts), told)
                    else:
                        self.assertTrue(same_kinds(run.arrive(facts), told))
                self.check_state(run, words)
        self.assertGreater(min(refused, departed, changed), 100)

    def test_nothing_present(self):
        for text in (EXAMPLE, free_policy(PAIRS)):
            run = Runner(read_policy(text))
            keeps = run.keeps_now()
            self.assertEqual((run.depart(), run.order(), run.taken(), run.keeps_now()), (None, (), 0, keeps))

    def policy(self, *lines):
        return Runner(read_policy("\n".join(("root q", "class * q", "at q") + lines)))

    def test_sets_are_done_behind_all_sections(self):
        run = self.policy("  keep v 3", "  in", "    set v v + 1", "    let a v", "    set v a * 10", "    rank v, a")
        run.arrive(FACTS)
        self.assertEqual(run.standing_of_now().line_of(0), (((3, 3), 0),))
        self.assertEqual(run.keeps_now(), (("q", (("v", 30),)),))

    def test_refused_packets_use_no_number(self):
        run = self.policy("  keep v 0", "  in", "    set v v + 1", "    rank f0 * f0, number")
        self.assertEqual(run.arrive((0, 1, 0, (1,))), 0)
        self.assertEqual(raised(run.arrive, (0, 1, 0, (2 ** 100,))), ("TooGreat", "q"))
        self.assertEqual((run.taken(), run.keeps_now()), (1, (("q", (("v", 1),)),)))
        self.assertEqual(run.arrive((0, 1, 0, (-2 ** 99,))), 1)
        self.assertEqual(run.standing_of_now().line_of(0), (((1, 0), 0), ((2 ** 198, 1), 1)))

    def test_a_set_that_is_no_worth_refuses_too(self):
        run = self.policy(f"  keep v {10 ** 17}", "  in", "    let a v * v * v", "    set v a * f0", "    rank 0")
        self.assertEqual(run.arrive((0, 1, 0, (0,))), 0)
        run = self.policy(f"  keep v {10 ** 17}", "  in", "    let a v * v * v", "    set v a * a * f0", "    rank 0")
        self.assertEqual(raised(run.arrive, (0, 1, 0, (0,))), ("TooGreat", "q"))

    def test_the_first_section_at_fault_tells_the_name(self):
        lines = free_policy(PAIRS)
        for depth in range(3):
            text = lines.replace(f"rank f{depth}", f"rank f{depth} + f{depth}")
            if depth == 0:
                text = text.replace("rank f1", "rank f1 * f1")
            run = Runner(read_policy(text))
            name = ("n0", "n4", "n5")[depth]
            self.assertEqual(raised(run.arrive, (2, 1, 0, (MOST_WORTH,) * 3)), ("TooGreat", name))

    def test_bounds_of_a_worth(self):
        run = self.policy("  keep v 0", "  in", "    set v f0 + f1", "    rank f0 + f1", "  out", "    set v rank + rank")
        self.assertEqual(run.arrive((0, 1, 0, (MOST_WORTH, 0))), 0)
        self.assertEqual(raised(run.arrive, (0, 1, 0, (MOST_WORTH, 1))), ("TooGreat", "q"))
        # At a departure the keeps stay as they are, and it goes through.
        self.assertEqual((run.depart(), run.keeps_now()), (0, (("q", (("v", MOST_WORTH),)),)))

    def test_outs_one_behind_the_other(self):
        one, v, rank = ("int", 1), ("name", "v"), ("name", "rank")
        section = ("q", (("rank", (("name", "f0"), ("name", "f1"), ("name", "f2"))),))
        outs = (
            (0, "q", (), (("set", "v", ("+", v, one)), ("set", "w", rank))),
            (0, "q", (4,), (("set", "v", ("*", v, ("int", 10))), ("set", "w", rank))),
            (0, "q", (4, 5, 6), (("set", "v", ("int", -1)),)),
            (0, "other", (4, 5), (("let", "v", ("name", "size")), ("set", "w", ("+", ("name", "v"), rank)))),
        )
        keeps = (("q", (("v", 1), ("w", 0))), ("other", (("w", 0),)))
        run = Runner(Policy(((), ("q",), keeps, (("*", 0, (section,)),), outs)))
        run.arrive((0, 7, 0, (4, 5, 6)))
        run.arrive((0, 7, 0, (5, 5, 6)))
        self.assertEqual(run.depart(), 0)
        self.assertEqual(run.keeps_now(), (("q", (("v", 20), ("w", 5))), ("other", (("w", 13),))))
        self.assertEqual(run.depart(), 1)
        self.assertEqual(run.keeps_now(), (("q", (("v", 21), ("w", 5))), ("other", (("w", 13),))))

    def test_an_out_that_fails_leaves_its_keeps_alone(self):
        v = ("name", "v")
        fails = (("set", "v", ("int", 5)), ("let", "z", ("*", ("int", MOST_WORTH), ("int", 2))))
        outs = ((0, "q", (), fails), (0, "q", (), (("set", "v", ("+", v, ("int", 1))),)))
        run = Runner(Policy(((), ("q",), (("q", (("v", 1),)),), (("*", 0, (("q", (("rank", (v,)),)),)),), outs)))
        run.arrive(FACTS)
        self.assertEqual((run.depart(), run.keeps_now()), (0, (("q", (("v", 2),)),)))

    def test_the_facts_at_a_departure(self):
        run = self.policy("  keep v 0", "  in", "    rank f0", "  out", "    set v number * 100 + size * 10 + f1 + class")
        run.arrive((9, 1, 0, (5, 3)))
        run.arrive((0, 2, 0, (4,)))
        self.assertEqual((run.depart(), run.keeps_now()), (1, (("q", (("v", 120),)),)))
        self.assertEqual((run.depart(), run.keeps_now()), (0, (("q", (("v", 22),)),)))

    def test_two_runners_share_nothing(self):
        policy = read_policy(EXAMPLE)
        one, other = Runner(policy), Runner(policy)
        one.arrive(FACTS)
        self.assertEqual((other.taken(), other.keeps_now()), (0, policy.parts()[2]))
        held, keeps = one.standing_of_now(), one.keeps_now()
        held.depart()
        one.arrive(FACTS)
        self.assertEqual((one.order(), keeps), ((1, 0), (("q", (("v", 1),)),)))

    def test_wrong_parameters(self):
        policy = read_policy(EXAMPLE)
        check_refusals(self, Runner, {"policy": policy}, {"policy": NOT_POLICIES + [policy.parts()]})
        run = Runner(policy)
        check_refusals(self, run.arrive, {"facts": FACTS}, {"facts": NOT_FACTS})
        self.assertEqual((run.taken(), run.order(), run.keeps_now()), (0, (), policy.parts()[2]))

    def test_four_thousand_packets(self):
        run = Runner(read_policy(free_policy(TWO)))
        for number in range(4000):
            run.arrive((number & 1, 1, 0, (-number, number)))
        self.assertEqual(run.order()[:2], (1, 0))
        self.assertEqual([run.depart() for _ in range(3)], [1, 0, 3])


class FreeTest(unittest.TestCase):
    def test_the_text_line_by_line(self):
        self.assertEqual(free_policy(plain=()), "root n0\nclass 0 n0\nclass * n0\nat n0\n  in\n    rank f0")
        self.assertEqual(free_policy(((), TWO)).split("\n"), [
            "root n0", "tree n0 (n1 n2)", "tree n2 (n3 n4)", "class 0 n1", "class 1 n3", "class 2 n4", "class * n4",
            "at n0", "  in n1", "    rank f0", "  in n2", "    rank f0", "at n1", "  in", "    rank f1",
            "at n2", "  in n3", "    rank f1", "  in n4", "    rank f1", "at n3", "  in", "    rank f2",
            "at n4", "  in", "    rank f2"])

    def test_each_packet_tells_its_way(self):
        chance = random.Random(131)
        forms = [form for form in sample_shapes(60, plain=True, queues=16) if max(map(len, Nodes(form).above)) <= 7]
        self.assertGreater(len(forms), 40)
        for form in forms:
            policy = read_policy(free_policy(form))
            nodes = Nodes(form)
            self.assertEqual(policy.shape_of(), form)
            self.assertEqual(policy.names_of(), tuple(f"n{node}" for node in range(len(nodes.shapes))))
            self.assertEqual(policy.route_for(99)[0], len(nodes.leaves) - 1)
            run, held = Runner(policy), Standing(form)
            for number in range(12):
                queue = chance.randrange(len(nodes.leaves))
                ranks = tuple((chance.choice([0, 3, MOST_WORTH, -MOST_WORTH]),) for _ in nodes.path(queue))
                facts = free_facts(plain=form, queue=queue, ranks=ranks)
                self.assertEqual(facts, (queue, 1, 0, tuple(rank[0] for rank in ranks)))
                self.assertEqual(run.arrive(facts), number)
                held.push(number, queue, ranks)
                self.assertTrue(run.standing_of_now().same_as(held))

    def test_wrong_parameters(self):
        check_refusals(self, free_policy, {"plain": TWO}, {"plain": NOT_PLAIN})
        bad = [None, True, 0, "", [], (), ((1,),), ((1,), (2,), (3,)), [(1,), (2,)], ((1,), [2]), ((1,), ()), ((), (1,)),
               ((1, 2), (1,)), ((1,), (1, 2)), ((True,), (1,)), ((1,), (2 ** 200,))]
        check_refusals(self, free_facts, {"plain": TWO, "queue": 0, "ranks": ((1,), (2,))},
                       {"plain": NOT_PLAIN, "queue": NOT_NUMBERS + [2], "ranks": bad})


if __name__ == "__main__":
    unittest.main()
