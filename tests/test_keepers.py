"""[42] and [43]: keepers by a plan, plans led on and cut, shapes beside one another; [44] of these."""

import random
import unittest

from nextbough.besides import beside_of, part_images
from nextbough.composing import cut_plan, led_on
from nextbough.cutting import kept_queues
from nextbough.layingcounts import count_layings
from nextbough.layingkinds import is_laying
from nextbough.layingnumbers import nth_laying
from nextbough.plainforms import plain_form
from nextbough.plankeepers import PlanKeeper, twin_run
from nextbough.plans import Plan
from nextbough.standings import Standing
from nextbough.ways import way_of
from nextbough.writing import write_standing
from support import (COMB, FLAT, LONG, NOT_NUMBERS, NOT_PACKETS, NOT_PLAIN, NOT_PLANS, PAIRS, SIX, THREE, TWO, Nodes,
                     check_refusals, fill, raised, random_ranks, sample_plans)

EXAMPLE = Plan(TWO, LONG, (1, 0))


class KeeperTest(unittest.TestCase):
    def test_example(self):
        keeper = PlanKeeper(EXAMPLE)
        self.assertEqual(keeper.push(8, 0, ((4,), (7, 1))), (1, ((), (), (4,), (7, 1))))
        self.assertEqual(keeper.plain_standing().all_lines(), ((((4,), 0),), (((7, 1), 8),), ()))
        self.assertEqual((keeper.depart(), keeper.depart()), (8, None))

    def test_pushes_and_departures_by_turns(self):
        chance = random.Random(31)
        for plan in sample_plans():
            nodes = Nodes(plan.plain_of())
            keeper, here = PlanKeeper(plan=plan), Standing(plan.plain_of())
            self.assertTrue(keeper.chip_standing().same_as(Standing(plan.chip_of())))
            for _ in range(30):
                number = chance.randrange(9)
                queue = chance.randrange(len(nodes.leaves))
                ranks = random_ranks(chance, len(nodes.path(queue)))
                if chance.random() < 0.35:
                    gone = here.depart()
                    self.assertEqual(keeper.depart(), None if gone is None else gone[0])
                elif here.lies_at(number) is None:
                    here.push(number, queue, ranks)
                    self.assertEqual(keeper.push(number=number, queue=queue, ranks=ranks), way_of(plan, queue, ranks))
                else:
                    self.assertEqual(raised(keeper.push, number, queue, ranks), ("NotUsable", "number", -1))
                self.assertTrue(keeper.plain_standing().same_as(here))
                self.assertTrue(keeper.chip_standing().same_as(write_standing(plan, here)))

    def test_standings_handed_out_are_new(self):
        keeper = PlanKeeper(EXAMPLE)
        keeper.push(1, 0, ((1,), ()))
        chip, plain = keeper.chip_standing(), keeper.plain_standing()
        before = chip.all_lines(), plain.all_lines()
        keeper.push(2, 1, ((0,), ()))
        self.assertEqual((chip.all_lines(), plain.all_lines()), before)
        chip.depart()
        plain.depart()
        self.assertEqual(keeper.chip_standing().order(), (2, 1))
        self.assertEqual(keeper.plain_standing().order(), (2, 1))

    def test_a_packet_that_departed_comes_again(self):
        keeper = PlanKeeper(EXAMPLE)
        keeper.push(1, 0, ((1,), ()))
        self.assertEqual(raised(keeper.push, 1, 1, ((1,), ())), ("NotUsable", "number", -1))
        self.assertEqual(keeper.depart(), 1)
        self.assertEqual(keeper.push(1, 1, ((1,), ())), (0, ((), (), (1,), ())))

    def test_wrong_parameters(self):
        check_refusals(self, PlanKeeper, {"plan": EXAMPLE}, {"plan": NOT_PLANS})
        keeper = PlanKeeper(EXAMPLE)
        keeper.push(1, 0, ((1,), ()))
        before = keeper.chip_standing().all_lines()
        for number in NOT_PACKETS + [1]:
            self.assertEqual(raised(keeper.push, number, 9, None), ("NotUsable", "number", -1))
            self.assertEqual(raised(keeper.push, ranks=((1,), ()), queue=0, number=number), ("NotUsable", "number", -1))
        for queue in NOT_NUMBERS + [2]:
            self.assertEqual(raised(keeper.push, 2, queue, None), ("NotUsable", "queue", -1))
        for ranks in (None, True, 0, "", [], (), ((1,),), ((1,), (), ()), ((True,), ()), [(1,), ()]):
            self.assertEqual(raised(keeper.push, 2, 1, ranks), ("NotUsable", "ranks", -1))
        self.assertEqual(keeper.chip_standing().all_lines(), before)


class TwinRunTest(unittest.TestCase):
    def test_example(self):
        events = (("push", 8, 0, ((4,), (7,))), ("depart",), ("depart",))
        self.assertEqual(twin_run(EXAMPLE, events), ((8, None), (8, None)))
        self.assertEqual(twin_run(plan=EXAMPLE, events=()), ((), ()))

    def test_both_parts_are_equal_and_what_departs(self):
        chance = random.Random(17)
        for plan in sample_plans():
            nodes = Nodes(plan.plain_of())
            events, here, gone = [], Standing(plan.plain_of()), []
            for number in range(25):
                queue = chance.randrange(len(nodes.leaves))
                events.append(("push", number, queue, random_ranks(chance, len(nodes.path(queue)))))
                here.push(*events[-1][1:])
                while chance.random() < 0.4:
                    events.append(("depart",))
                    packet = here.depart()
                    gone.append(None if packet is None else packet[0])
            self.assertEqual(twin_run(plan, tuple(events)), (tuple(gone), tuple(gone)))

    def test_wrong_parameters(self):
        push = ("push", 8, 0, ((4,), (7,)))
        bad = [None, True, 0, "", [], [("depart",)], ("depart",), (("depart", 1),), (("push", 8, 0),), (push, push),
               (("push", True, 0, ((4,), (7,))),), (("push", 8, 2, ((4,), (7,))),), (("push", 8, 0, ((4,),)),),
               # A packet that departed is not pushed again in events.
               (push, ("depart",), push)]
        check_refusals(self, twin_run, {"plan": EXAMPLE, "events": (push,)}, {"plan": NOT_PLANS, "events": bad})


class ComposingTest(unittest.TestCase):
    def test_example(self):
        led = led_on(EXAMPLE, Plan((((), ()), ()), COMB, (2, 0, 3)))
        self.assertEqual((led.images_of(), led.top_at(0)), ((0, 2), 1))
        cut = cut_plan(led)
        self.assertEqual((cut.chip_of(), cut.images_of(), cut.plain_of()), (((), ()), (0, 1), TWO))

    def further(self, plan, chance):
        """A plan of the plain form of the plan's chip."""
        form = plain_form(plan.chip_of())
        chips = [form, (form, ()), ((form,),), ((), form)]
        chip = chips[chance.randrange(len(chips))]
        total = count_layings(form, chip)
        return Plan(form, chip, nth_laying(form, chip, chance.randrange(total)))

    def test_led_on(self):
        chance = random.Random(23)
        for plan in sample_plans(60):
            other = self.further(plan, chance)
            led = led_on(plan=plan, other=other)
            self.assertIs(type(led), Plan)
            self.assertEqual((led.plain_of(), led.chip_of()), (plan.plain_of(), other.chip_of()))
            self.assertEqual(led.images_of(), tuple(other.image_of(image) for image in plan.images_of()))
            here = fill(Standing(plan.plain_of()), chance, 9)
            there = write_standing(led, here)
            self.assertEqual(there.order(), here.order())
            if plan.chip_of() == plain_form(plan.chip_of()):
                # [44]: the same items in all lines; the same ranks, too, if each queue of the chip is an image.
                twice = write_standing(other, write_standing(plan, here))
                items = [[[entry[1] for entry in line] for line in held.all_lines()] for held in (there, twice)]
                self.assertEqual(items[0], items[1])
                if len(plan.images_of()) == len(Nodes(plan.chip_of()).leaves):
                    self.assertTrue(there.same_as(twice))

    def test_led_on_from_a_cut_plan_has_the_same_ranks(self):
        chance = random.Random(29)
        for plan in sample_plans(60):
            cut = cut_plan(plan)
            here = fill(Standing(plan.plain_of()), chance, 9)
            other = self.further(cut, chance)
            self.assertTrue(write_standing(led_on(cut, other), here).same_as(
                write_standing(other, write_standing(cut, here))))

    def test_cut_plans(self):
        for plan in sample_plans(60):
            cut = cut_plan(plan=plan)
            held = sorted(plan.images_of())
            self.assertEqual(cut.plain_of(), plan.plain_of())
            self.assertEqual(cut.chip_of(), kept_queues(plan.chip_of(), tuple(held)))
            self.assertEqual(cut.images_of(), tuple(held.index(image) for image in plan.images_of()))

    def test_wrong_parameters(self):
        other = Plan((((), ()), ()), COMB, (2, 0, 3))
        # The plain form of LONG is THREE; a plan of LONG's queues on another shape is none.
        bad = NOT_PLANS + [EXAMPLE, Plan(FLAT, PAIRS, (0, 1, 2, 3)), Plan(((), ((), ())), ((), ((), ())), (0, 1, 2))]
        check_refusals(self, led_on, {"plan": EXAMPLE, "other": other}, {"plan": NOT_PLANS, "other": bad})
        check_refusals(self, cut_plan, {"plan": EXAMPLE}, {"plan": NOT_PLANS})


class BesideTest(unittest.TestCase):
    def test_example(self):
        self.assertEqual(beside_of((TWO, ())), (((), ()), ()))
        self.assertEqual(part_images((TWO, ()), (5, 1, 0), 0), (5, 1))
        self.assertEqual(part_images(plains=(TWO, ()), images=(5, 1, 2 ** 300), part=1), (2 ** 300,))

    def test_two_to_six_parts(self):
        parts = (TWO, (), PAIRS, COMB, FLAT, SIX)
        for many in range(2, 7):
            plains = parts[:many]
            form = beside_of(plains=plains)
            self.assertEqual(form, plains)
            queues = len(Nodes(form).leaves)
            images = tuple(range(queues + 5, 5, -1))
            left = [part_images(plains, images, part) for part in range(many)]
            self.assertEqual(tuple(image for row in left for image in row), images)
            self.assertEqual([len(row) for row in left], [len(Nodes(plain).leaves) for plain in plains])

    def test_parts_of_layings_are_layings(self):
        # [44]
        chance = random.Random(2)
        for plains in ((TWO, ()), ((), (), TWO), (THREE, TWO), (TWO, TWO, TWO)):
            for chip in (beside_of(plains), (beside_of(plains), ()), (PAIRS, COMB), ((PAIRS, COMB), LONG)):
                total = count_layings(beside_of(plains), chip)
                for _ in range(6 if total else 0):
                    images = nth_laying(beside_of(plains), chip, chance.randrange(total))
                    for part, plain in enumerate(plains):
                        self.assertTrue(is_laying(plain, chip, part_images(plains, images, part)))

    def test_wrong_parameters(self):
        bad = [None, True, 0, "", [], (), ((),), (TWO,), [TWO, ()], ((),) * 7, (TWO, LONG), (None, TWO), (TWO, [()])]
        bad += [(TWO, thing) for thing in NOT_PLAIN]
        check_refusals(self, beside_of, {"plains": (TWO, ())}, {"plains": bad})
        images = [None, True, 0, "", [], (), (5, 1), (5, 1, 0, 2), [5, 1, 0], (5, 1, 5), (5, 1, -1), (5, 1, True),
                  (5, False, 0), (5, 1, None), (5, 1, (0,)), (5, 1, [0])]
        check_refusals(self, part_images, {"plains": (TWO, ()), "images": (5, 1, 0), "part": 0},
                       {"plains": bad, "images": images, "part": NOT_NUMBERS + [2]})


if __name__ == "__main__":
    unittest.main()
