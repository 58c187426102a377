"""The guarantees (G1) to (G14) of [11], over the whole program."""

import itertools
import random
import unittest

from nextbough.boughparts import bough_standing
from nextbough.chiprunners import ChipRunner
from nextbough.composing import cut_plan, led_on
from nextbough.composites import can_mount
from nextbough.defeats import lets_defeat, play_foe
from nextbough.disciplines import discipline_policy
from nextbough.foes import Foe, most_pushes
from nextbough.foretold import Foretold
from nextbough.freepolicies import free_policy
from nextbough.fulltrees import all_carrying, full_tree, height_for
from nextbough.futures import lets_parting, parting_of
from nextbough.insertings import plain_places, ranks_at
from nextbough.isolating import bough_events
from nextbough.lanelines import LaneRunner
from nextbough.layingcounts import count_layings
from nextbough.layingkinds import is_laying
from nextbough.layingnumbers import nth_laying
from nextbough.leaning import lean_policy, lets_melts
from nextbough.leastlayings import least_laying
from nextbough.logs import fork_log
from nextbough.melts import can_melt, melted
from nextbough.mimics import Mimic
from nextbough.orders import may_turn, order_of
from nextbough.packing import can_lay
from nextbough.plainforms import plain_form
from nextbough.plankeepers import PlanKeeper, twin_run
from nextbough.plans import Plan
from nextbough.playing import play_events
from nextbough.policies import Policy
from nextbough.policytexts import read_policy
from nextbough.ranksets import node_lanes
from nextbough.reading import follows_plan, read_standing
from nextbough.runners import Runner
from nextbough.snapshots import restored
from nextbough.standingmakers import lets_lines, standing_of
from nextbough.standings import Standing
from nextbough.stretches import worst_stretch
from nextbough.strides import meeting_deeds, turn_strides, turns_bound
from nextbough.switches import Switch
from nextbough.turnings import are_turns
from nextbough.ways import way_of
from nextbough.whynots import lets_why_not, why_not
from nextbough.writing import write_standing
from support import (COMB, FLAT, LONG, PAIRS, THREE, TWO, Nodes, fill, plain_shapes, raised, random_discipline, random_operator,
                     random_parts, random_ranks, random_shape, run_alike, sample_plans, sample_shapes)


def some_events(chance, form, steps, bare=True):
    nodes, events = Nodes(form), []
    for number in range(steps):
        if chance.random() < 0.45:
            events.append(("depart",))
        else:
            queue = chance.randrange(len(nodes.leaves))
            events.append(("push", number, queue, random_ranks(chance, len(nodes.path(queue)), 3, bare)))
    return tuple(events)


def departures(standing):
    held, gone = standing.twin(), []
    while held.many_present():
        gone.append(held.depart()[0])
    return tuple(gone)


def can_be_sent(plain, chip):
    """Whether the queues can be sent so that each bough's images are alone in some bough of the chip, as (G1) says."""
    small, large = Nodes(plain), Nodes(chip)
    for images in itertools.permutations(range(len(large.leaves)), len(small.leaves)):
        if all(any({image for image in images if image in held} == {images[queue] for queue in bough} for held in large.held) for bough in small.held):
            return True
    return False


class LayingsTest(unittest.TestCase):
    def test_g1_when_there_is_a_laying(self):
        forms = [form for many in (1, 2, 3, 4) for form in plain_shapes(many)]
        chips = sample_shapes(14, queues=6, seed=501)
        found = set()
        for plain in forms:
            for chip in chips:
                found.add(can_be_sent(plain, chip))
                self.assertIs(can_lay(plain, chip), can_be_sent(plain, chip))
        self.assertEqual(found, {True, False})

    def test_g1_the_keeper_of_a_plan_is_right(self):
        chance = random.Random(502)
        for plan in sample_plans(40, seed=503):
            one, other = twin_run(plan, some_events(chance, plan.plain_of(), 60))
            self.assertEqual(one, other)

    def test_g1_and_g2_no_keeper_is_right_without_a_laying(self):
        chance = random.Random(504)
        for plain, chip in ((PAIRS, COMB), (PAIRS, FLAT), (THREE, FLAT), (TWO, ()), (FLAT, TWO), ((THREE, ()), PAIRS), ((TWO, THREE), (FLAT, ((), ()), ()))):
            self.assertIs(can_lay(plain, chip), False)
            for kind in ("any", "own", "new", "old"):
                word, defeat = play_foe(plain, chip, kind, tuple(chance.randint(0, 9) for _ in range(3)))
                self.assertEqual(word, "won")
                self.assertLessEqual(len(defeat[0]), most_pushes(plain, chip))
                self.assertEqual(lets_defeat(plain, chip, defeat), defeat[1])

    def test_g2_a_play_ends(self):
        chance = random.Random(505)
        for _ in range(25):
            plain = random_shape(chance, chance.randint(1, 5), True)
            chip = random_shape(chance, chance.randint(1, 7), False, 4)
            mimic = Mimic(plain, chip, chance.choice(["any", "own", "new", "old"]), (chance.randint(0, 9), 1))
            foe, seats = Foe(plain, chip), [set() for _ in Nodes(plain).leaves]
            while foe.next_push() is not None:
                number, queue, ranks = foe.next_push()
                way = mimic.push(number, queue, ranks)
                seats[queue].add(way[0])
                foe.answer(*way)
            self.assertLessEqual(len(foe.answers()), most_pushes(plain, chip))
            verdict = foe.verdict()
            if verdict[0] == "fits":
                self.assertTrue(is_laying(plain, chip, verdict[1]))
                self.assertTrue(all(image in held for image, held in zip(verdict[1], seats)))
            else:
                lets_defeat(plain, chip, (foe.answers(),) + verdict[1:])

    def test_g2_who_is_told_all_beforehand(self):
        chance = random.Random(506)
        for plain in sample_shapes(10, plain=True, queues=6):
            for chip in ((), LONG, COMB):
                events = some_events(chance, plain, 40)
                keeper, gone = Foretold(plain, chip, events), []
                for event in events:
                    if event[0] == "push":
                        self.assertEqual(keeper.push(*event[1:])[0], 0)
                    else:
                        gone.append(keeper.depart())
                self.assertEqual(tuple(gone), play_events(plain, events)[0])

    def test_g5_full_trees_and_turns(self):
        for plain in [form for many in range(1, 6) for form in plain_shapes(many)][::3]:
            self.assertTrue(can_lay(plain, plain))
            self.assertTrue(can_lay(plain, all_carrying(len(Nodes(plain).leaves))))
            for width, height in ((2, 0), (2, 1), (2, 2), (2, 3), (2, 4), (3, 1), (3, 2), (4, 2), (6, 1)):
                self.assertIs(can_lay(plain, full_tree(width, height)), height_for(plain, width) <= height)
        forms = [form for many in (3, 4) for form in plain_shapes(many)]
        for one, other in itertools.product(forms, forms):
            self.assertIs(can_lay(one, other) and can_lay(other, one), are_turns(one, other))

    def test_g5_layings_lead_on(self):
        chance = random.Random(507)
        led = 0
        while led < 40:
            plain = random_shape(chance, chance.randint(1, 5), True)
            chip = random_shape(chance, chance.randint(2, 7), False)
            further = random_shape(chance, chance.randint(3, 11), False)
            if can_lay(plain, chip) and can_lay(plain_form(chip), further):
                led += 1
                self.assertTrue(can_lay(plain, further))


class OrdersTest(unittest.TestCase):
    def test_g3_the_order_is_the_row_of_departures(self):
        chance = random.Random(511)
        for form in sample_shapes(50):
            held = fill(Standing(form), chance, 15)
            self.assertEqual(held.order(), departures(held))

    def test_g3_which_pushes_turn_packets(self):
        for form in (TWO, THREE, LONG, PAIRS, FLAT, (((), ((), ())),)):
            nodes = Nodes(form)
            queues = range(len(nodes.leaves))
            for one, other in itertools.product(queues, queues):
                turned = {queue: False for queue in queues}
                for first, second in ((0, 1), (1, 0)):
                    held = Standing(form)
                    held.push(1, one, tuple((first,) for _ in nodes.path(one)))
                    held.push(2, other, tuple((second,) for _ in nodes.path(other)))
                    for queue in queues:
                        # A packet ahead of both or behind both at each node of its path.
                        for signs in itertools.product((-5, 5), repeat=len(nodes.path(queue))):
                            beside = held.twin()
                            beside.push(3, queue, tuple((sign,) for sign in signs))
                            left = tuple(number for number in beside.order() if number != 3)
                            turned[queue] = turned[queue] or left != held.order()
                for queue in queues:
                    self.assertIs(may_turn(form, queue, one, other), turned[queue], (form, queue, one, other))

    def test_g3_a_new_packet_can_be_put_anywhere(self):
        chance = random.Random(512)
        for form in sample_shapes(25, queues=7):
            nodes, held = Nodes(form), Standing(form)
            for number in range(9):
                queue = chance.randrange(len(nodes.leaves))
                held.push(number, queue, tuple((number * 64 + chance.randint(0, 63) * 64 * 16 + depth,) for depth in range(len(nodes.path(queue)))))
            for queue in range(len(nodes.leaves)):
                path = nodes.path(queue)
                for depth, node in enumerate(path):
                    before = order_of(held, node)
                    for place in range(len(before) + 1):
                        places = tuple(len(held.line_of(top)) for top in path[:depth]) + plain_places(held, queue, node, place)
                        beside = held.twin()
                        beside.push(99, queue, ranks_at(held, queue, places, 2 ** 20))
                        self.assertEqual(order_of(beside, node), before[:place] + (99,) + before[place:])

    def test_g4_standings_that_depart_alike(self):
        chance = random.Random(513)
        told = 0
        for plain in sample_shapes(30, plain=True, queues=5):
            events = tuple(event for event in some_events(chance, plain, 14, False) if event[0] == "push")
            one = play_events(plain, events)[1]
            shuffled = list(events)
            chance.shuffle(shuffled)
            other = play_events(plain, tuple(shuffled))[1]
            test = parting_of(one, other)
            self.assertEqual(test is None, one.all_lines() == other.all_lines())
            if test is None:
                for _ in range(5):
                    queue = chance.randrange(len(Nodes(plain).leaves))
                    ranks = random_ranks(chance, len(Nodes(plain).path(queue)), 3, False)
                    for held in (one, other):
                        held.push(60 + held.many_present(), queue, ranks)
                self.assertEqual(departures(one), departures(other))
            else:
                told += 1
                self.assertGreaterEqual(lets_parting(one, other, test), 0)
        self.assertGreater(told, 8)


class PlansTest(unittest.TestCase):
    def test_g6_what_is_written_stays_so(self):
        chance = random.Random(521)
        for plan in sample_plans(40, seed=522):
            plain = Standing(plan.plain_of())
            there = write_standing(plan, plain)
            for event in some_events(chance, plan.plain_of(), 40):
                if event[0] == "push":
                    plain.push(*event[1:])
                    there.push(event[1], *way_of(plan, event[2], event[3]))
                else:
                    one, other = plain.depart(), there.depart()
                    self.assertEqual(one is None, other is None)
                    if one is not None:
                        path = Nodes(plan.chip_of()).path(other[1])
                        tops = [path.index(plan.top_at(node)) for node in Nodes(plan.plain_of()).path(one[1])]
                        self.assertEqual((other[0], tuple(other[2][depth] for depth in tops)), (one[0], one[2]))
                self.assertTrue(there.same_as(write_standing(plan, plain)))
            self.assertTrue(read_standing(plan, there).same_as(plain))

    def test_g6_other_standings_do_not_follow(self):
        chance = random.Random(523)
        followed = 0
        for plan in sample_plans(40, seed=524, most=4):
            odd = fill(Standing(plan.chip_of()), chance, chance.randint(1, 3), 1)
            if follows_plan(plan, odd):
                followed += 1
                self.assertTrue(write_standing(plan, read_standing(plan, odd)).same_as(odd))
            else:
                self.assertEqual(raised(read_standing, plan, odd)[0], "Unwritten")
        self.assertGreater(followed, 2)

    def test_g7_layings_led_on(self):
        chance = random.Random(525)
        done = 0
        for plan in sample_plans(60, seed=526, most=4, more=2):
            chip = plain_form(plan.chip_of())
            further = random_shape(chance, min(12, len(Nodes(chip).leaves) + 3), False, 6)
            if not can_lay(chip, further):
                continue
            done += 1
            other = Plan(chip, further, least_laying(chip, further, (1,) * len(Nodes(chip).leaves))[1])
            led = led_on(plan, other)
            self.assertTrue(is_laying(plan.plain_of(), further, led.images_of()))
            one, two = PlanKeeper(plan), PlanKeeper(led)
            for event in some_events(chance, plan.plain_of(), 30):
                if event[0] == "push":
                    one.push(*event[1:])
                    two.push(*event[1:])
                else:
                    self.assertEqual(one.depart(), two.depart())
            if plan.chip_of() == chip:
                items = [[[item for _, item in line] for line in held.all_lines()]
                         for held in (two.chip_standing(), write_standing(other, one.chip_standing()))]
                self.assertEqual(*items)
            cut = cut_plan(plan)
            further = Plan(cut.chip_of(), cut.chip_of(), tuple(range(len(Nodes(cut.chip_of()).leaves))))
            held = write_standing(cut, one.plain_standing())
            self.assertTrue(write_standing(led_on(cut, further), one.plain_standing()).same_as(write_standing(further, held)))
        self.assertGreater(done, 15)


class PoliciesTest(unittest.TestCase):
    def test_g8_and_g9_chips_and_melts(self):
        chance = random.Random(531)
        melts = 0
        for turn, plan in enumerate(sample_plans(30, seed=532, most=5)):
            policy = Policy(random_parts(chance, plan.plain_of()))
            run_alike(self, Runner(policy), ChipRunner(policy, plan), chance, 25)
            policy = read_policy(discipline_policy(random_discipline(chance, chance.randint(2, 8))))
            for kind in ("same", "strict", "into"):
                for node in range(len(policy.names_of())):
                    if can_melt(policy, kind, node):
                        melts += 1
                        run_alike(self, Runner(policy), Runner(melted(policy, kind, node)), chance, 12)
            lean = lean_policy(policy)[0]
            chip = random_shape(chance, 8, True)
            if can_lay(lean.shape_of(), chip):
                plan = Plan(lean.shape_of(), chip, nth_laying(lean.shape_of(), chip, count_layings(lean.shape_of(), chip) - 1))
                run_alike(self, Runner(policy), ChipRunner(lean, plan), chance, 25, looks=("order", "keeps_now", "taken"))
        self.assertGreater(melts, 10)

    def test_g10_lanes(self):
        chance = random.Random(533)
        for text in ("strict(come small)", "strict(strict(due free) come small)", "come(due small)"):
            words = discipline_policy(text)
            for word, few in (("number", "rest(number, 3)"), ("stamp", "rest(stamp, 2)"), ("size", "less(size, 4)"), ("f0", "max(rest(f0, 4), 1)")):
                words = words.replace(f"rank {word}", f"rank {few}")
            policy = read_policy(words)
            for chip in (PAIRS, (((), ()), ((),), ((), ())), full_tree(3, 2)):
                if can_lay(policy.shape_of(), chip):
                    plan = Plan(policy.shape_of(), chip, nth_laying(policy.shape_of(), chip, 0))
                    lanes = node_lanes(policy, plan)
                    run_alike(self, Runner(policy), LaneRunner(policy, plan, lanes), chance, 60)
                    # Whichever line has one lane less, some rank that can come would have none.
                    for node, many in enumerate(lanes):
                        if many:
                            fewer = lanes[:node] + (many - 1,) + lanes[node + 1:]
                            self.assertEqual(raised(LaneRunner, policy, plan, fewer), ("NotUsable", "lanes", -1))

    def test_g11_boughs_alone(self):
        chance = random.Random(534)
        for form in sample_shapes(30, queues=8, seed=535):
            events = some_events(chance, form, 40)
            held = play_events(form, events)[1]
            for node, bough in enumerate(Nodes(form).shapes):
                self.assertTrue(play_events(bough, bough_events(form, events, node))[1].same_as(bough_standing(held, node)))

    def test_g12_turns(self):
        chance = random.Random(536)
        for _ in range(20):
            weights = tuple(chance.randint(1, 20) for _ in range(chance.randint(2, 4)))
            head = "turns" + "".join(f":{weight}" for weight in weights)
            policy = read_policy(discipline_policy(f"{head}({' '.join(['come'] * len(weights))})"))
            run, deeds = Runner(policy), []
            for _ in range(120):
                if chance.random() < 0.55:
                    number = chance.randrange(len(weights))
                    run.arrive((number, 1, 0, ()))
                    deeds.append(("in", number))
                elif run.order():
                    deeds.append(("out", run.depart()))
            log = fork_log(policy, tuple(deeds), 0)
            one, other = chance.sample(range(len(weights)), 2)
            self.assertLessEqual(worst_stretch(log, weights, one, other), turns_bound(weights, one, other))
            # There are events by which they differ by just this.
            run, log = Runner(policy), []
            for word, child in meeting_deeds(weights, one, other):
                log.append((word, child) if word == "in" else (word, [at for told, at in log if told == "in"][run.depart()]))
                if word == "in":
                    run.arrive((child, 1, 0, ()))
            outs = [child for word, child in log if word == "out"][1:]
            strides = turn_strides(weights)
            self.assertEqual(abs(outs.count(one) * strides[one] - outs.count(other) * strides[other]), turns_bound(weights, one, other))


class SwitchTest(unittest.TestCase):
    def test_g13(self):
        chance = random.Random(541)
        told = {True: 0, False: 0}
        for _ in range(40):
            text, (places, _, _) = random_operator(chance, chance.randint(1, 3))
            chip = random_shape(chance, chance.randint(3, 12), False, 6)
            if not can_mount(chip, text, (None,) * len(places)):
                continue
            switch, shapes = Switch(chip, text, 50), [None] * len(places)
            for at, place in enumerate(places):
                form = random_shape(chance, chance.randint(1, 4), True)
                fits = can_mount(chip, text, tuple(shapes[:at] + [form] + shapes[at + 1:]))
                told[fits] += 1
                self.assertEqual(raised(switch.mount, place, free_policy(form), 10, False), None if fits else ("NoLaying",))
                shapes[at] = form if fits else None
                for _ in range(4 if fits else 0):
                    switch.arrive(place, (chance.randint(0, 3), 1, chance.randint(0, 9), tuple(chance.randint(0, 9) for _ in range(3))))
                beside = restored(switch.snapshot())
                raised(beside.move_to, random_shape(chance, 14, False, 6))
                self.assertEqual(beside.order(), switch.order())
            for at, place in enumerate(places):
                if shapes[at] is not None:
                    before = switch.order()
                    raised(switch.exchange, place, free_policy(random_shape(chance, chance.randint(1, 3), True)))
                    self.assertEqual(switch.order(), before)
        self.assertGreater(min(told.values()), 8)


class PapersTest(unittest.TestCase):
    """(G14): what an accepted paper states is true."""

    def test_lines_and_tables(self):
        chance = random.Random(551)
        accepted = 0
        for form in sample_shapes(40, queues=3, seed=552):
            lines = fill(Standing(form), chance, 3, 1).all_lines()
            node = chance.randrange(len(lines))
            changed = chance.choice([lines, lines[:node] + (lines[node][:-1],) + lines[node + 1:], lines[:node] + (lines[node][::-1],) + lines[node + 1:]])
            told = raised(lets_lines, form, changed)
            if told is None:
                accepted += 1
                held = standing_of(form, changed)
                self.assertEqual((held.all_lines(), len(departures(held))), (changed, lets_lines(form, changed)))
            for chip in (TWO, COMB):
                plain = plain_form(form)
                table = why_not(plain, chip)
                self.assertEqual(table is None, can_be_sent(plain, chip))
                for other in ([table, table[1:], table[:1] + table[:-1]] if table else [((0, 0, (1,)),), ()]):
                    if raised(lets_why_not, plain, chip, other) is None:
                        self.assertIs(can_be_sent(plain, chip), False)
        self.assertGreater(accepted, 20)

    def test_defeats_and_melts(self):
        chance = random.Random(553)
        accepted = 0
        for plain, chip in ((PAIRS, COMB), (PAIRS, FLAT), (TWO, ()), (FLAT, TWO)):
            word, defeat = play_foe(plain, chip, "any", (chance.randint(0, 9),))
            self.assertEqual(word, "won")
            for behind in range(len(defeat[0]) + 1):
                for due in (defeat[2], defeat[3], 0):
                    paper = (defeat[0], behind, due, defeat[3])
                    if raised(lets_defeat, plain, chip, paper) is None:
                        accepted += 1
                        one, other = Standing(plain), Standing(chip)
                        for number, answer in enumerate(defeat[0]):
                            one.push(number, *answer[:2])
                            other.push(number, *answer[2:])
                        one, other = departures(one), departures(other)
                        self.assertEqual((one[:behind], one[behind], other[behind]), (other[:behind], due, defeat[3]))
                        self.assertNotEqual(due, defeat[3])
        self.assertEqual(accepted, 4)
        for _ in range(30):
            policy = read_policy(discipline_policy(random_discipline(chance, chance.randint(2, 6))))
            melts = [(kind, node) for kind in ("same", "strict", "into") for node in range(5)]
            for many in range(3):
                paper = tuple(chance.choice(melts) for _ in range(many))
                if raised(lets_melts, policy, paper) is None:
                    left = policy
                    for melt in paper:
                        left = melted(left, *melt)
                    self.assertEqual(lets_melts(policy, paper), len(left.names_of()))
                    self.assertEqual(lean_policy(left)[1], ())


if __name__ == "__main__":
    unittest.main()
