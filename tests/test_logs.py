"""[75] to [78], what [79] says of them, and (G11): deeds, logs, stretches, and boughs alone."""

import itertools
import random
import unittest

from nextbough.boughparts import bough_standing
from nextbough.disciplines import discipline_policy
from nextbough.isolating import bough_events
from nextbough.logs import are_deeds, fork_log, is_log, waiting
from nextbough.playing import play_events
from nextbough.policies import Policy
from nextbough.policytexts import read_policy
from nextbough.runners import Runner
from nextbough.standings import Standing
from nextbough.stretches import longest_wait, worst_stretch
from nextbough.strides import turn_strides
from support import (COMB, LONG, NOT_NUMBERS, NOT_POLICIES, NOT_SHAPES, PAIRS, TWO, Nodes, check_refusals, deep,
                     random_discipline, random_parts, random_ranks, same_kinds, sample_shapes)

LOG = (("in", 0), ("in", 1), ("in", 0), ("out", 0), ("out", 0), ("out", 1))
EXAMPLE = (("in", 1), ("in", 0), ("in", 70), ("out", 1), ("out", 0))
NOT_LOGS = [None, True, 0, "", "in", [], [("in", 0)], ("in", 0), (("in",),), (("in", 0, 0),), (["in", 0],), (("in", 6),), (("in", -1),),
            (("in", True),), (("in", None),), (("in", "0"),), (("in", (0,)),), (("out", 0),), (("in", 0), ("out", 1)),
            (("in", 0), ("out", 0), ("out", 0)), (("in", 0), ("out", False)), (("on", 0),), ((True, 0),), ((None, 0),), ((("in",), 0),),
            (("in", 0), None), (("in", 0), ("out", 0), ("In", 0)), (("in", []),), deep(80)]


def example_policy():
    return read_policy(discipline_policy("strict(come due(small free))"))


def random_deeds(chance, policy, steps):
    """The deeds of a run of the policy, and for each of them what is present behind it."""
    run, deeds, present = Runner(policy), [], []
    for _ in range(steps):
        if chance.random() < 0.45:
            gone = run.depart()
            if gone is not None:
                deeds.append(("out", gone))
        else:
            number = chance.choice([0, 1, 2, 3, 4, 70, 99])
            run.arrive((number, chance.randint(1, 9), chance.randint(-9, 9), (chance.randint(0, 9),)))
            deeds.append(("in", number))
        present.append(run.order())
    return tuple(deeds), run


class DeedsTest(unittest.TestCase):
    def test_example(self):
        policy = example_policy()
        self.assertEqual(fork_log(policy, EXAMPLE, 0), (("in", 1), ("in", 0), ("in", 1), ("out", 0), ("out", 1)))
        self.assertEqual((fork_log(policy, EXAMPLE, 2), are_deeds(policy, (("out", 0),))), ((("in", 0), ("in", 1), ("out", 0)), False))

    def test_are_deeds(self):
        policy = example_policy()
        for good in ((), EXAMPLE, (("in", 99), ("out", 0), ("in", 0), ("out", 1)), (("in", 5),) * 4, (("in", 3), ("in", 3), ("out", 1), ("out", 0))):
            self.assertIs(are_deeds(policy=policy, thing=good), True, good)
        bad = [None, True, 0, "", [], list(EXAMPLE), ("in", 1), (("in",),), (("in", 1, 1),), (["in", 1],), (("in", 100),), (("in", -1),),
               (("in", True),), (("in", "*"),), (("in", None),), (("in", ()),), (("out", 0),), (("in", 0), ("out", 1)), (("in", 0), ("out", 0), ("out", 0)),
               (("in", 0), ("out", None)), (("in", 0), ("out", False)), (("in", 0), ("out", -1)), (("on", 0),), ((True, 0),), (("in", 0), None),
               (("in", 0), ("Out", 0)), ((("in",), 0),), deep(80), (("in", 0), ("out", 2 ** 80))]
        for value in bad:
            self.assertIs(are_deeds(policy, value), False, value)
        for value in NOT_POLICIES:
            check_refusals(self, lambda policy: are_deeds(policy, None), {"policy": policy}, {"policy": [value]})

    def test_logs_by_the_words(self):
        chance = random.Random(251)
        for turn in range(40):
            policy = Policy(random_parts(chance)) if turn % 2 else read_policy(discipline_policy(random_discipline(chance, chance.randint(2, 8))))
            nodes = Nodes(policy.shape_of())
            deeds, numbers = [], []
            for _ in range(40):
                if numbers and chance.random() < 0.4:
                    # Any packet may be told to depart; of a run of the policy it would be a certain one.
                    deeds.append(("out", numbers.pop(chance.randrange(len(numbers)))))
                else:
                    numbers.append(sum(word == "in" for word, _ in deeds))
                    deeds.append(("in", chance.randint(0, 9)))
            classes = [number for word, number in deeds if word == "in"]
            for fork in nodes.forks():
                log = []
                for at, (word, number) in enumerate(deeds):
                    packet = sum(told == "in" for told, _ in deeds[:at]) if word == "in" else number
                    queue = policy.route_for(classes[packet])[0]
                    log += [(word, child) for child, kid in enumerate(nodes.kids[fork]) if queue in nodes.held[kid]]
                self.assertTrue(same_kinds(fork_log(policy=policy, deeds=tuple(deeds), fork=fork), tuple(log)))
                self.assertTrue(is_log(tuple(log)))

    def test_a_child_waits_if_its_line_is_not_empty(self):
        # [79]
        chance = random.Random(252)
        for _ in range(25):
            policy = read_policy(discipline_policy(random_discipline(chance, chance.randint(2, 7))))
            nodes = Nodes(policy.shape_of())
            deeds, run = random_deeds(chance, policy, 40)
            held = run.standing_of_now()
            for fork in nodes.forks():
                log = fork_log(policy, deeds, fork)
                lines = [held.line_of(kid) for kid in nodes.kids[fork]]
                self.assertEqual(waiting(log, len(log)), tuple(child for child, line in enumerate(lines) if line))

    def test_five_hundred_deeds(self):
        policy = example_policy()
        deeds = (("in", 2),) * 250 + tuple(("out", number) for number in range(250))
        self.assertEqual(fork_log(policy, deeds, 2), (("in", 1),) * 250 + (("out", 1),) * 250)

    def test_wrong_parameters(self):
        bad = {"policy": NOT_POLICIES, "deeds": [None, 0, "", [], (("out", 0),), (("in", True),), [("in", 0)]], "fork": NOT_NUMBERS + [1, 3, 4, 5, 2 ** 70]}
        check_refusals(self, fork_log, {"policy": example_policy(), "deeds": EXAMPLE, "fork": 2}, bad)
        self.assertEqual(fork_log(example_policy(), (), 0), ())


def random_log(chance, steps, children=4):
    log, present = [], []
    for _ in range(steps):
        if present and chance.random() < 0.48:
            log.append(("out", present.pop(chance.randrange(len(present)))))
        else:
            present.append(chance.randrange(children))
            log.append(("in", present[-1]))
    return tuple(log)


def stretches_by_words(log, one, other):
    """All stretches that have at least one pair, by trying each row of "out" pairs."""
    outs = [at for at, (word, _) in enumerate(log) if word == "out"]

    def waits(child, at):
        before = [word for word, held in log[:at] if held == child]
        return before.count("in") > before.count("out")

    for low, high in itertools.combinations(range(len(outs) + 1), 2):
        row = outs[low:high]
        if all(waits(one, at) and waits(other, at) for at in row):
            yield [log[at][1] for at in row]


class StretchTest(unittest.TestCase):
    def test_examples(self):
        self.assertEqual((waiting(LOG, 4), waiting(LOG, 6)), ((0, 1), ()))
        self.assertEqual((worst_stretch(LOG, (1, 2), 0, 1), longest_wait(LOG, 1, 0), longest_wait(LOG, 0, 1)), (4, 2, 0))

    def test_is_log(self):
        for good in ((), LOG, (("in", 5), ("out", 5)), tuple(("in", child) for child in range(6)), (("in", 0), ("out", 0)) * 250):
            self.assertIs(is_log(thing=good), True)
        for value in NOT_LOGS:
            self.assertIs(is_log(value), False, value)

    def test_waiting(self):
        rows = [waiting(log=LOG, place=place) for place in range(7)]
        self.assertTrue(same_kinds(rows, [(), (0,), (0, 1), (0, 1), (0, 1), (1,), ()]))
        self.assertEqual(waiting((), 0), ())
        self.assertEqual(waiting((("in", 5), ("in", 2), ("in", 5), ("out", 5)), 4), (2, 5))
        check_refusals(self, waiting, {"log": LOG, "place": 3}, {"log": NOT_LOGS, "place": NOT_NUMBERS + [7, 2 ** 70]})

    def test_by_the_words(self):
        chance = random.Random(253)
        several = 0
        for _ in range(60):
            log = random_log(chance, chance.randint(0, 40), chance.randint(2, 5))
            weights = tuple(chance.randint(1, 20) for _ in range(chance.randint(2, 6)))
            strides = turn_strides(weights)
            one, other = chance.sample(range(len(weights)), 2)
            rows = list(stretches_by_words(log, one, other))
            several += len(rows) > 5
            worst = max([abs(row.count(one) * strides[one] - row.count(other) * strides[other]) for row in rows], default=0)
            longest = max([row.count(other) for row in rows if one not in row], default=0)
            self.assertTrue(same_kinds(worst_stretch(log=log, weights=weights, one=one, other=other), worst))
            self.assertTrue(same_kinds(longest_wait(log=log, one=one, other=other), longest))
        self.assertGreater(several, 10)

    def test_other_children_may_be_between(self):
        log = (("in", 0),) * 2 + (("in", 1),) * 9 + (("in", 5),) * 2 + (("out", 1), ("out", 5), ("out", 1), ("in", 0), ("out", 5), ("out", 1), ("out", 0), ("out", 1))
        self.assertEqual((longest_wait(log, 0, 1), longest_wait(log, 1, 0), longest_wait(log, 5, 1)), (3, 1, 1))
        # Children of log need not be below the number of weights.
        self.assertEqual(worst_stretch(log, (1, 1), 0, 1), 3)
        self.assertEqual(worst_stretch(log, (1, 1, 1), 2, 1), 0)

    def test_a_stretch_ends_where_one_of_the_two_does_not_wait(self):
        log = (("in", 0), ("in", 1)) + (("out", 1), ("in", 1)) * 2 + (("out", 0), ("out", 1), ("in", 0), ("in", 1), ("out", 1))
        self.assertEqual(longest_wait(log, 0, 1), 2)
        self.assertEqual(worst_stretch(log, (1, 1), 0, 1), 2)
        apart = (("in", 0), ("in", 1), ("out", 1), ("in", 1), ("out", 0), ("in", 2), ("out", 2), ("in", 0), ("out", 1))
        self.assertEqual(longest_wait(apart, 0, 1), 1)
        self.assertEqual(worst_stretch((), (1, 1), 0, 1), 0)

    def test_wrong_parameters(self):
        weights = [None, True, 0, "", [], [1, 2], (), (1,), (1,) * 7, (1, 0), (1, 21), (1, True), (1, "2")]
        bad = {"log": NOT_LOGS, "weights": weights, "one": NOT_NUMBERS + [2, 5], "other": NOT_NUMBERS + [0, 2, 5]}
        check_refusals(self, worst_stretch, {"log": LOG, "weights": (1, 2), "one": 0, "other": 1}, bad)
        bad = {"log": NOT_LOGS, "one": NOT_NUMBERS + [6, 7], "other": NOT_NUMBERS + [0, 6]}
        check_refusals(self, longest_wait, {"log": LOG, "one": 0, "other": 1}, bad)
        self.assertEqual(longest_wait(LOG, 0, 5), 0)


def random_events(chance, form, steps, bare=True):
    nodes, events, number = Nodes(form), [], 0
    for _ in range(steps):
        if chance.random() < 0.45:
            events.append(("depart",))
        else:
            queue = chance.randrange(len(nodes.leaves))
            events.append(("push", number, queue, random_ranks(chance, len(nodes.path(queue)), 3, bare)))
            number += chance.randint(1, 3)
    return tuple(events)


class BoughEventsTest(unittest.TestCase):
    def test_example(self):
        events = (("push", 7, 1, ((3,), (2,), (1,), ())), ("push", 8, 3, ((0,), ())), ("depart",), ("depart",))
        self.assertEqual(bough_events(COMB, events, 1), (("push", 7, 1, ((2,), (1,), ())), ("depart",)))

    def test_departures_of_nothing_are_left_out(self):
        push = ("push", 3, 2, ((1,), (4,)))
        events = (("depart",), push, ("depart",), ("depart",))
        self.assertEqual(bough_events(form=LONG, events=events, node=0), (push, ("depart",)))
        self.assertEqual(bough_events(LONG, events, 5), (("push", 3, 0, ((4,),)), ("depart",)))
        self.assertEqual(bough_events(LONG, events, 1), ())
        self.assertEqual(bough_events(LONG, (), 3), ())

    def test_by_the_words(self):
        # (G11), [79]
        chance = random.Random(254)
        for form in sample_shapes(40, queues=9):
            nodes = Nodes(form)
            events = random_events(chance, form, 40)
            held, lain = Standing(form), []
            expected = [[] for _ in nodes.shapes]
            for event in events:
                if event[0] == "push":
                    held.push(*event[1:])
                    queue = event[2]
                else:
                    gone = held.depart()
                    if gone is None:
                        continue
                    queue = gone[1]
                    lain.append(gone)
                for node in range(len(nodes.shapes)):
                    if queue in nodes.held[node]:
                        depth = len(nodes.above[node])
                        own = event if event[0] == "depart" else ("push", event[1], nodes.held[node].index(queue), event[3][depth:])
                        expected[node].append(own)
            for node in range(len(nodes.shapes)):
                told = bough_events(form, events, node)
                self.assertTrue(same_kinds(told, tuple(expected[node])))
                departed, standing = play_events(nodes.shapes[node], told)
                # What departs from the bough alone is what departs from it in form.
                self.assertEqual(departed, tuple(number for number, queue, _ in lain if queue in nodes.held[node]))
                self.assertTrue(standing.same_as(bough_standing(held, node)))

    def test_a_bough_of_a_bough(self):
        # [79]
        chance = random.Random(255)
        for form in sample_shapes(25, queues=8, seed=8):
            nodes = Nodes(form)
            events = random_events(chance, form, 30)
            for top in range(len(nodes.shapes)):
                inner = bough_events(form, events, top)
                for node in range(top, len(nodes.shapes)):
                    if top == node or top in nodes.above[node]:
                        self.assertEqual(bough_events(form, events, node), bough_events(nodes.shapes[top], inner, node - top))

    def test_four_hundred_events(self):
        events = tuple(("push", number, number & 3, ((number,), (0,), ())) for number in range(200)) + (("depart",),) * 200
        self.assertEqual(len(bough_events(PAIRS, events, 1)), 200)

    def test_wrong_parameters(self):
        push = ("push", 3, 1, ((1,), (4,)))
        events = [None, True, 0, "", [], [push], push, (push, push), (("push", 3, 2, ((1,), (4,))),), (("push", 3, 1, ((1,),)),),
                  (("depart", 1),), ("depart",), (("push", True, 1, ((1,), (4,))),), (("push", 2 ** 60, 1, ((1,), (4,))),)]
        check_refusals(self, bough_events, {"form": TWO, "events": (push, ("depart",)), "node": 1},
                       {"form": NOT_SHAPES, "events": events, "node": NOT_NUMBERS + [3]})


if __name__ == "__main__":
    unittest.main()
