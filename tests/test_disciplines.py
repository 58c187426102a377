"""[72] to [74], what [79] says of them, and (G12): disciplines, strides, runs at forks with turns."""

import math
import random
import unittest

from nextbough.disciplines import discipline_policy
from nextbough.logs import fork_log, is_log
from nextbough.policytexts import read_policy
from nextbough.runners import Runner
from nextbough.shapetexts import read_shape
from nextbough.strides import meeting_deeds, turn_strides, turns_bound
from nextbough.stretches import longest_wait, worst_stretch
from support import (NOT_NUMBERS, NOT_TEXTS, QUEUE_WORDS, Beginnings, Nodes, check_refusals, longest_beginning, near_texts,
                     raised, random_discipline, same_kinds)

NOT_WEIGHTS = [None, True, 0, "", "1:2", [], [1, 2], (), (1,), (1,) * 7, (1, 0), (1, 21), (1, -1), (1, True), (1, None), (1, "2"), (1, (2,))]


def lines_by_words(text):
    """The lines of the policy, told in another way: by splitting the text at its brackets."""
    rows, open_forks, word = [], [], ""
    for sign in text.replace(")", " )") + " ":
        if sign in "( ":
            if word == ")":
                open_forks.pop()
            elif word:
                rows.append([word, []])
                if open_forks:
                    open_forks[-1][1].append(rows[-1])
                if sign == "(":
                    open_forks.append(rows[-1])
            word = ""
        else:
            word += sign
    forks = [row for row in rows if row[1]]
    queues = [row for row in rows if not row[1]]
    name = lambda row: f"k{[id(x) for x in forks].index(id(row))}" if row[1] else f"q{[id(x) for x in queues].index(id(row))}"
    lines = ["root " + name(rows[0])]
    lines += [f"tree {name(row)} ({' '.join(name(kid) for kid in row[1])})" for row in forks]
    lines += [f"class {k} q{k}" for k in range(len(queues))] + [f"class * q{len(queues) - 1}"]
    for row in rows:
        lines.append("at " + name(row))
        kind, *weights = row[0].split(":")
        told = {"come": "number", "due": "stamp", "small": "size", "free": "f0"}
        if not row[1]:
            lines += ["  in", f"    rank {told[kind]}"]
        elif weights:
            lines += ["  keep v 0"] + [f"  keep e{k} 0" for k in range(len(weights))]
            for k, weight in enumerate(weights):
                stride = math.lcm(*map(int, weights)) // int(weight)
                lines += [f"  in {name(row[1][k])}", f"    let s max(v, e{k})", f"    set e{k} s + {stride}", "    rank s"]
            lines += ["  out", "    set v rank"]
        else:
            for k, kid in enumerate(row[1]):
                lines += [f"  in {name(kid)}", f"    rank {k if kind == 'strict' else told[kind]}"]
    return lines


class DisciplineTest(unittest.TestCase):
    def test_examples(self):
        self.assertEqual(discipline_policy("come"), "root q0\nclass 0 q0\nclass * q0\nat q0\n  in\n    rank number")
        self.assertEqual(discipline_policy("turns:2:1(due free)").split("\n")[9:13],
                         ["  in q0", "    let s max(v, e0)", "    set e0 s + 1", "    rank s"])
        rows = {"": 0, "free(": 4, "strict": 6, "turns:21": 7, "come(due)": 8, "turns:1:2(come come come)": 19}
        for text, at in rows.items():
            self.assertEqual(raised(discipline_policy, text=text), ("InvalidText", at))

    def test_line_by_line(self):
        self.assertEqual(discipline_policy(text="turns:2:1(due strict(small free))").split("\n"), [
            "root k0", "tree k0 (q0 k1)", "tree k1 (q1 q2)", "class 0 q0", "class 1 q1", "class 2 q2", "class * q2",
            "at k0", "  keep v 0", "  keep e0 0", "  keep e1 0", "  in q0", "    let s max(v, e0)", "    set e0 s + 1", "    rank s",
            "  in k1", "    let s max(v, e1)", "    set e1 s + 2", "    rank s", "  out", "    set v rank",
            "at q0", "  in", "    rank stamp", "at k1", "  in q1", "    rank 0", "  in q2", "    rank 1",
            "at q1", "  in", "    rank size", "at q2", "  in", "    rank f0"])
        for kind, rank in (("come", "number"), ("due", "stamp"), ("small", "size")):
            self.assertEqual(discipline_policy(f"{kind}(free come)").split("\n")[5:10],
                             ["at k0", "  in q0", f"    rank {rank}", "  in q1", f"    rank {rank}"])

    def test_by_the_words(self):
        chance = random.Random(241)
        for _ in range(150):
            text = random_discipline(chance, chance.randint(1, 24))
            self.assertEqual(discipline_policy(text).split("\n"), lines_by_words(text), text)

    def test_read_policy_reads_it(self):
        # [79]
        chance = random.Random(242)
        for _ in range(80):
            text = random_discipline(chance, chance.randint(1, 16), 6)
            heads = text
            for word in QUEUE_WORDS + ("strict",):
                heads = heads.replace(word + "(", "(").replace(word, "o") if word != "strict" else heads.replace("strict(", "(")
            shape = read_shape("".join(part.partition(":")[0].replace("turns", "") + "(" for part in heads.split("(")[:-1])
                               + heads.split("(")[-1])
            policy = read_policy(discipline_policy(text))
            self.assertEqual(policy.shape_of(), shape, text)

    def test_limits_of_read_policy(self):
        sixteen = "come(%s)" % " ".join(["due(come come come come)"] * 4)
        self.assertEqual(len(Nodes(read_policy(discipline_policy(sixteen)).shape_of()).leaves), 16)
        seventeen = sixteen.replace("due(come come come come)", "due(come come come come come)", 1)
        self.assertEqual(raised(read_policy, discipline_policy(seventeen)), ("InvalidPolicy", 0, "limit"))
        twenty_four = "small(%s)" % " ".join(["due(come come come come)"] * 6)
        self.assertIn("class 23 q23\nclass * q23", discipline_policy(twenty_four))
        for deep, told in ((7, None), (8, ("InvalidPolicy", 0, "limit"))):
            text = "strict(come " * deep + "due" + ")" * deep
            self.assertEqual(raised(read_policy, discipline_policy(text)), told)

    def test_named_places(self):
        rows = {
            "turns": 5, "turns:": 6, "turns:1": 7, "turns:1:": 8, "turns:0": 6, "turns:01": 6, "turns:1:0": 8, "turns:1:01": 8,
            "turns:20": 8, "turns:21": 7, "turns:200": 8, "turns:3:19": 10, "turns:3:30": 9, "turns:1(": 7, "turns(": 5,
            "turns:1:1:1:1:1:1:1(": 17, "turns:1:1:1:1:1:1(": 18, "turns:1:1:1:1:1:1 ": 17, "turns:1:-1": 8, "turns:1: 1": 8,
            "come(come": 9, "come(come ": 10, "come(come)": 9, "come(come  come)": 10, "come(": 5, "come()": 5, "come( ": 5,
            "come((": 5, "strict(come come come come come come": 36, "strict(come come come come come come ": 36,
            "strict(come come come come come come come)": 36, "come(come come) ": 15, "come(come come))": 15, "come come": 4, "come,": 4,
            "free(come come)": 4, "strict ": 6, "Come": 0, "com": 3, "comes": 4, "cone": 2, "s": 1, "sm": 2, "str": 3, "sx": 1,
            "smal(": 4, "d": 1, "free(come": 4, " come": 0, "turns:2:1(come come": 19, "turns:2:1(come)": 14, "turns:2:1(come come come)": 19,
            "come(come free(due due))": 14, "come(turns:1:1 come)": 14, "mount a": 0, "come(mount a mount b)": 5, "come\n": 4,
        }
        for text, at in rows.items():
            self.assertEqual(raised(discipline_policy, text), ("InvalidText", at), text)

    def test_longest_beginnings(self):
        chance = random.Random(243)
        refused = 0
        for _ in range(60):
            text = random_discipline(chance, chance.randint(1, 5))
            for near in near_texts(chance, text, "comeduesmallfreestrictturns:0129() ", 12):
                if Beginnings(near, QUEUE_WORDS).is_whole():
                    self.assertEqual(discipline_policy(near).split("\n"), lines_by_words(near))
                else:
                    refused += 1
                    at = longest_beginning(near, lambda begun: Beginnings(begun, QUEUE_WORDS).begins())
                    self.assertEqual(raised(discipline_policy, near), ("InvalidText", at), near)
        self.assertGreater(refused, 1500)

    def test_queues_serve_the_least(self):
        # [79]
        chance = random.Random(244)
        keys = {"come": lambda number, facts: number, "due": lambda number, facts: facts[2], "small": lambda number, facts: facts[1],
                "free": lambda number, facts: facts[3][0] if facts[3] else 0}
        for _ in range(12):
            words = [chance.choice(QUEUE_WORDS) for _ in range(3)]
            run = Runner(read_policy(discipline_policy(f"strict({words[0]} strict({words[1]} {words[2]}))")))
            present = {}
            for _ in range(60):
                if chance.random() < 0.45:
                    gone = run.depart()
                    if not present:
                        self.assertIsNone(gone)
                        continue
                    # From a strict fork one of the least child whose line is not empty.
                    queue = min(place for place, _ in present.values())
                    due = min((number for number, (place, _) in present.items() if place == queue),
                              key=lambda number: (keys[words[queue]](number, present[number][1]), number))
                    self.assertEqual(gone, due)
                    del present[gone]
                else:
                    facts = (chance.randint(0, 2), chance.randint(1, 4), chance.randint(-2, 2), (chance.randint(0, 2),) * chance.randint(0, 1))
                    present[run.arrive(facts)] = (facts[0], facts)

    def test_wrong_parameters(self):
        check_refusals(self, discipline_policy, {"text": "come"}, {"text": NOT_TEXTS})


class StridesTest(unittest.TestCase):
    def test_examples(self):
        self.assertEqual((turn_strides((2, 3, 6)), turns_bound((2, 3, 6), 0, 2)), ((3, 2, 1), 4))
        self.assertEqual(meeting_deeds((1, 1), 0, 1),
                         (("in", 1), ("in", 0), ("in", 0), ("out", None), ("in", 1), ("out", None), ("out", None)))

    def test_strides(self):
        chance = random.Random(245)
        rows = [(1, 20), (20, 20), (1,) * 6, (19, 17, 13, 11, 7, 16), (20, 19, 18, 17, 16, 13)]
        rows += [tuple(chance.randint(1, 20) for _ in range(chance.randint(2, 6))) for _ in range(60)]
        for weights in rows:
            strides = turn_strides(weights=weights)
            # One number that all weights divide; were it not the least one, all strides would have a divisor.
            self.assertEqual(len({stride * weight for stride, weight in zip(strides, weights)}), 1)
            self.assertEqual(math.gcd(*strides), 1)
            self.assertTrue(same_kinds(strides, tuple(int(stride) for stride in strides)))
            for one in range(len(weights)):
                for other in range(len(weights)):
                    if one != other:
                        self.assertEqual(turns_bound(weights=weights, one=one, other=other), strides[one] + strides[other])

    def test_meeting_deeds(self):
        self.assertEqual(meeting_deeds((2, 3, 6), 0, 1), (
            ("in", 1),) + (("in", 0),) * 3 + (("out", None),) + (("in", 1),) * 3 + (("out", None),) * 5)
        self.assertEqual(meeting_deeds(weights=(1, 20), one=1, other=0), (
            ("in", 0),) + (("in", 1),) * 21 + (("out", None),) + (("in", 0),) + (("out", None),) * 21)
        self.assertEqual(meeting_deeds((4, 2), 1, 0), (("in", 0),) + (("in", 1),) * 2 + (("out", None), ("in", 0), ("in", 0)) + (("out", None),) * 3)

    def test_wrong_parameters(self):
        check_refusals(self, turn_strides, {"weights": (1, 20)}, {"weights": NOT_WEIGHTS})
        bad = {"weights": NOT_WEIGHTS, "one": NOT_NUMBERS + [2, 3, 6], "other": NOT_NUMBERS + [0, 2, 6]}
        for call in (turns_bound, meeting_deeds):
            check_refusals(self, call, {"weights": (1, 20), "one": 0, "other": 1}, bad)
            self.assertEqual(raised(call, (1,) * 6, 6, 5), ("NotUsable", "one", -1))
            self.assertEqual(raised(call, (1,) * 6, 5, 6), ("NotUsable", "other", -1))
            self.assertEqual(raised(call, (1,) * 6, 5, 5), ("NotUsable", "other", -1))
            self.assertIsNone(raised(call, (1,) * 6, 5, 4))


class TurnsRunTest(unittest.TestCase):
    """Runs at forks with turns, whose stretches keep the bound."""

    def run_of(self, chance, text, steps):
        """The deeds of a run and the policy."""
        policy = read_policy(discipline_policy(text))
        run, deeds = Runner(policy), []
        many = len(Nodes(policy.shape_of()).leaves)
        for _ in range(steps):
            if chance.random() < 0.42:
                gone = run.depart()
                if gone is not None:
                    deeds.append(("out", gone))
            else:
                number = chance.randrange(many)
                run.arrive((number, chance.randint(1, 9), chance.randint(-9, 9), ()))
                deeds.append(("in", number))
        return policy, tuple(deeds), run

    def test_stretches_keep_the_bound(self):
        # (G12), [79]
        chance = random.Random(246)
        reached = 0
        for _ in range(40):
            weights = tuple(chance.choice([1, 2, 3, 5, 8, 20]) for _ in range(chance.randint(2, 4)))
            kids = [chance.choice(["come", "due", "small(come due)", "strict(due small)"]) for _ in weights]
            head = "turns" + "".join(f":{weight}" for weight in weights)
            inner = f"{head}({' '.join(kids)})"
            text = chance.choice([inner, f"strict(come {inner})", f"come({inner} due)"])
            policy, deeds, _ = self.run_of(chance, text, 250)
            fork = policy.names_of().index("k0" if text == inner else "k1")
            log = fork_log(policy, deeds, fork)
            self.assertTrue(is_log(log))
            for one in range(len(weights)):
                for other in range(len(weights)):
                    if one == other:
                        continue
                    bound = turns_bound(weights, one, other)
                    worst = worst_stretch(log, weights, one, other)
                    self.assertLessEqual(worst, bound)
                    self.assertLessEqual(longest_wait(log, one, other), bound // turn_strides(weights)[other])
                    reached += worst * 2 > bound
        self.assertGreater(reached, 30)

    def test_meeting_deeds_reach_the_bound(self):
        chance = random.Random(247)
        rows = [((1, 1), 0, 1), ((1, 20), 0, 1), ((1, 20), 1, 0), ((20, 19, 18, 17, 16, 13), 2, 5), ((2, 3, 6), 1, 0)]
        for _ in range(40):
            weights = tuple(chance.randint(1, 20) for _ in range(chance.randint(2, 6)))
            rows.append((weights, *chance.sample(range(len(weights)), 2)))
        for weights, one, other in rows:
            head = "turns" + "".join(f":{weight}" for weight in weights)
            run = Runner(read_policy(discipline_policy(f"{head}({' '.join(['come'] * len(weights))})")))
            kinds, log = {}, []
            for word, child in meeting_deeds(weights, one, other):
                if word == "in":
                    kinds[run.arrive((child, 1, 0, ()))] = child
                    log.append(("in", child))
                else:
                    log.append(("out", kinds[run.depart()]))
            strides, outs = turn_strides(weights), [child for word, child in log if word == "out"][1:]
            bound = turns_bound(weights, one, other)
            difference = abs(outs.count(one) * strides[one] - outs.count(other) * strides[other])
            self.assertEqual((difference, worst_stretch(tuple(log), weights, one, other)), (bound, bound))


if __name__ == "__main__":
    unittest.main()
