"""[83] to [88] and (G13): the switch, beside one by the words of the document."""

import random
import unittest

from nextbough.composites import composite_shape
from nextbough.disciplines import discipline_policy
from nextbough.errors import BoughError
from nextbough.freepolicies import free_policy
from nextbough.journals import replayed
from nextbough.leastlayings import least_laying
from nextbough.plainruns import audit_of, plain_run
from nextbough.plans import Plan
from nextbough.snapshots import restored
from nextbough.standingmakers import standing_of
from nextbough.standings import Standing
from nextbough.switches import Switch
from nextbough.writing import write_standing
from ownswitch import OwnSwitch
from support import (COMB, FLAT, LONG, MOST_WORTH, NOT_FACTS, NOT_NUMBERS, NOT_SHAPES, NOT_STANDINGS, NOT_TEXTS, PAIRS, THREE, TWO,
                     Nodes, check_refusals, raised, random_discipline, random_operator, random_shape, same_kinds)

Q = "root q\nclass * q\nat q\n  in\n    rank stamp"
GREAT = "root r\nclass * r\nat r\n  keep v 0\n  in\n    set v v + 1\n    rank f0 * f0, number\n  out\n    set v v * 10 + rank"
NOT_OPERATORS = NOT_TEXTS + ["", "mount", "mount o", "come(mount a)", "due(mount a mount a)", "come", "strict(mount a mount b) "]
NOT_POLICY_TEXTS = NOT_TEXTS + ["", "root q", "come", Q + "\n", Q[:-1]]
NOT_LEAN = [None, 0, 1, "", "lean", (), []]
NOT_PLACES = [None, True, 0, "", "c", "A", "mount a", (), [], ("a",), ["a"]]
METHODS = ("mount", "unmount", "exchange", "move_to", "arrive", "depart")


def told_by(switch, deed, named=False):
    """What the deed tells on the switch, its arguments being passed by position or by name."""
    names = {"mount": ("place", "text", "room", "lean"), "unmount": ("place",), "exchange": ("place", "text"), "move_to": ("chip",),
             "arrive": ("place", "facts"), "depart": ()}[deed[0]]
    try:
        if named:
            return getattr(switch, deed[0])(**dict(zip(names, deed[1:])))
        return getattr(switch, deed[0])(*deed[1:])
    except BoughError as error:
        return (type(error).__name__,) + tuple(vars(error).values())


def some_policy(chance):
    pick = chance.random()
    if pick < 0.2:
        return Q
    if pick < 0.4:
        return GREAT
    if pick < 0.5:
        return free_policy(chance.choice([TWO, THREE])).replace("rank f1", "rank f1 * f0")
    return discipline_policy(random_discipline(chance, chance.choice([1, 2, 2, 3, 4]), 2))


def some_facts(chance):
    fields = tuple(chance.choice([0, 1, 2, -1, MOST_WORTH]) if chance.random() < 0.3 else chance.randint(-2, 3) for _ in range(chance.randint(0, 3)))
    return (chance.choice([0, 1, 2, 3, 99]), chance.randint(1, 5), chance.randint(-3, 3), fields)


def some_chip(chance, few=4):
    return random_shape(chance, chance.randint(few, 16), False, 6)


def chip_for(chance, text, few):
    """A chip that carries the operator's shape."""
    while True:
        chip = some_chip(chance, few)
        if raised(Switch, chip, text, 0) is None:
            return chip


def some_deed(chance, places):
    place = chance.choice(places)
    pick = chance.random()
    if pick < 0.42:
        return ("arrive", place, some_facts(chance))
    if pick < 0.74:
        return ("depart",)
    if pick < 0.86:
        return ("mount", place, some_policy(chance), chance.choice([0, 1, 2, 3, 5]), chance.random() < 0.4)
    if pick < 0.92:
        return ("exchange", place, some_policy(chance))
    return ("unmount", place) if pick < 0.96 else ("move_to", some_chip(chance))


class SwitchTest(unittest.TestCase):
    def check_state(self, switch, own):
        self.assertEqual(switch.order(), tuple(own.order()))
        form, chip = own.composite(), own.chip
        back = switch.read_back()
        self.assertEqual((back.form_of(), back.all_lines()), (form, own.composite_lines()))
        images = least_laying(form, chip, (1,) * len(Nodes(form).leaves))[1]
        self.assertTrue(same_kinds(switch.images_now(), images))
        self.assertTrue(switch.chip_standing().same_as(write_standing(Plan(form, chip, images), back)))
        self.assertTrue(same_kinds(switch.deeds(), tuple(own.done)))
        for place in own.places:
            if place in own.tenants:
                self.assertTrue(same_kinds(switch.counts_of(place), own.counts_of(place)))
                self.assertTrue(same_kinds(switch.keeps_of(place=place), own.keeps_of(place)))
            else:
                for look in (switch.counts_of, switch.keeps_of):
                    self.assertEqual(raised(look, place), ("Vacant", place))

    def test_beside_an_own_tree(self):
        chance = random.Random(311)
        seen = {}
        for turn in range(28):
            text, told = random_operator(chance, 1 + turn % 4)
            places = told[0]
            chip, room = chip_for(chance, text, 7), chance.choice([3, 6, 40])
            switch, own = Switch(chip=chip, text=text, room=room), OwnSwitch(chip, text, room)
            deeds = []
            self.check_state(switch, own)
            for step in range(45):
                deed = some_deed(chance, places)
                if step < len(places):
                    deed = ("mount", places[step], some_policy(chance), chance.choice([1, 4, 9]), chance.random() < 0.4)
                expected = own.do(deed)
                deeds.append((deed, expected))
                self.assertTrue(same_kinds(told_by(switch, deed, step % 3 == 0), expected), (deed, expected))
                word = expected[0] if isinstance(expected, tuple) and deed[0] != "depart" else deed[0]
                seen[word] = seen.get(word, 0) + 1
                self.check_state(switch, own)
                if step % 9 == 4:
                    snapshot = switch.snapshot()
                    self.check_kinds(snapshot)
                    # From here on the one made anew goes on.
                    switch = restored(snapshot=snapshot)
                    self.check_state(switch, own)
            self.check_journal(switch, own, deeds, (chip, text, room))
        words = METHODS + ("Taken", "Vacant", "Busy", "FullRoom", "TooLittle", "NoLaying", "TooGreat")
        self.assertEqual(set(seen), set(words))
        self.assertGreater(min(seen.values()), 4, seen)

    def check_kinds(self, thing):
        self.assertIn(type(thing), (int, bool, type(None), str, tuple, list))
        if isinstance(thing, (tuple, list)):
            for part in thing:
                self.check_kinds(part)

    def check_journal(self, switch, own, deeds, made):
        """What was told, by a plain run; the journal, done again."""
        told, standing = plain_run(*made, tuple((deed, None) for deed, _ in deeds))
        self.assertTrue(same_kinds(told, tuple(expected for _, expected in deeds)))
        self.assertTrue(standing.same_as(switch.read_back()))
        told, standing = plain_run(*made, switch.deeds())
        self.assertTrue(same_kinds(told, tuple(told for _, told in switch.deeds())))
        self.assertTrue(standing.same_as(switch.read_back()))
        self.assertIsNone(audit_of(switch, switch.chip_standing()))
        again = replayed(*made, switch.deeds())
        self.check_state(again, own)
        self.assertEqual([again.depart() for _ in range(4)], [switch.depart() for _ in range(4)])

    def test_example(self):
        switch = Switch(PAIRS, "strict(mount a mount b)", 5)
        self.assertIsNone(switch.mount("b", Q, 3, False))
        self.assertEqual(switch.arrive("b", (0, 1, 7, ())), 0)
        switch.mount("a", Q, 2, False)
        self.assertEqual(switch.arrive("a", (0, 1, 9, ())), 1)
        self.assertEqual((switch.order(), switch.deeds()[1]), ((("a", 1), ("b", 0)), (("arrive", "b", (0, 1, 7, ())), 0)))

    def test_a_new_switch(self):
        switch = Switch(LONG, "due(mount a mount b)", 0)
        self.assertEqual((switch.order(), switch.deeds(), switch.images_now(), switch.depart()), ((), (), (0, 2), None))
        self.assertEqual(switch.deeds(), ((("depart",), None),))
        self.assertTrue(switch.read_back().same_as(Standing(TWO)))
        self.assertTrue(switch.chip_standing().same_as(Standing(LONG)))
        self.assertEqual(raised(Switch, (), "due(mount a mount b)", 3), ("NoLaying",))
        self.assertEqual(raised(Switch, COMB, "due(strict(mount a mount b) strict(mount c mount d))", 3), ("NoLaying",))
        alone = Switch((), "mount a", 1)
        alone.mount("a", Q, 1, True)
        self.assertEqual((alone.arrive("a", (0, 1, 5, ())), alone.order(), alone.depart(), alone.depart()), (0, (("a", 0),), ("a", 0), None))

    def test_refusals_of_mount(self):
        switch = Switch(PAIRS, "due(mount a mount b)", 4)
        three = discipline_policy("due(due(come come) come)")
        self.assertEqual(raised(switch.mount, "a", three, 5, False), ("TooLittle", 4))
        self.assertEqual(raised(switch.mount, "a", three, 4, False), ("NoLaying",))
        switch.mount("a", Q, 3, False)
        self.assertEqual(raised(switch.mount, "a", three, 9, False), ("Taken", "a"))
        self.assertEqual(raised(switch.mount, "b", three, 2, False), ("TooLittle", 1))
        self.assertEqual(raised(switch.mount, "b", three, 1, False), ("NoLaying",))
        self.assertEqual(raised(switch.mount, "b", Q, 1, False), None)
        self.assertEqual(raised(switch.mount, "b", Q, 2 ** 80, False), ("Taken", "b"))
        switch.unmount("a")
        self.assertEqual(raised(switch.mount, "a", Q, 4, False), ("TooLittle", 3))
        self.assertEqual(raised(switch.mount, "a", Q, 0, False), None)
        self.assertEqual([deed[0] for deed, _ in switch.deeds()], ["mount", "mount", "unmount", "mount"])

    def test_lean_tenants_need_fewer_queues(self):
        text = discipline_policy("strict(come strict(due small))")
        switch = Switch(TWO, "come(mount a mount b)", 9)
        self.assertEqual(raised(switch.mount, "a", text, 3, False), ("NoLaying",))
        self.assertIsNone(switch.mount("a", text, 3, True))
        self.assertEqual((switch.read_back().form_of(), switch.keeps_of("a")),
                         (TWO, tuple((name, ()) for name in ("k0", "q0", "k1", "q1", "q2"))))
        switch.arrive("a", (2, 5, 0, ()))
        self.assertEqual(switch.read_back().all_lines(), ((((0,), 0),), (((1, 1, 5), 0),), ()))
        # Lean as at its mount.
        switch.exchange("a", discipline_policy("strict(small due)"))
        self.assertEqual(switch.read_back().form_of(), TWO)
        self.assertEqual(raised(switch.exchange, "b", text), ("Vacant", "b"))

    def test_refusals_of_unmount_exchange_and_move(self):
        switch = Switch(PAIRS, "due(mount a mount b)", 4)
        three = discipline_policy("due(due(come come) come)")
        self.assertEqual(raised(switch.unmount, "a"), ("Vacant", "a"))
        self.assertEqual(raised(switch.exchange, "a", three), ("Vacant", "a"))
        switch.mount("a", Q, 4, False)
        self.assertEqual(raised(switch.exchange, "a", three), ("NoLaying",))
        switch.arrive("a", (0, 1, 3, ()))
        self.assertEqual(raised(switch.unmount, "a"), ("Busy", "a"))
        self.assertEqual(raised(switch.move_to, ()), ("NoLaying",))
        self.assertEqual(switch.counts_of("a"), (1, 0, 0))
        switch.depart()
        self.assertIsNone(switch.unmount(place="a"))
        self.assertIsNone(switch.move_to(chip=LONG))
        self.assertEqual(switch.chip_standing().form_of(), LONG)
        self.assertEqual(raised(switch.counts_of, "a"), ("Vacant", "a"))

    def test_refusals_of_arrive(self):
        switch = Switch(PAIRS, "due(mount a mount b)", 4)
        great, small = (0, 1, 3, (MOST_WORTH,)), (0, 1, 3, (2,))
        self.assertEqual(raised(switch.arrive, "a", great), ("Vacant", "a"))
        switch.mount("a", GREAT, 1, False)
        switch.mount("b", GREAT, 0, False)
        self.assertEqual(raised(switch.arrive, "a", great), ("TooGreat", "a-r"))
        self.assertEqual(switch.arrive(place="a", facts=small), 0)
        self.assertEqual(raised(switch.arrive, "a", great), ("FullRoom", "a"))
        self.assertEqual(raised(switch.arrive, "b", small), ("FullRoom", "b"))
        self.assertEqual((switch.counts_of("a"), switch.counts_of("b")), ((1, 2, 0), (0, 1, 0)))
        self.assertEqual(switch.keeps_of("a"), (("r", (("v", 1),)),))
        self.assertEqual(switch.deeds()[2:], (
            (("arrive", "a", great), ("TooGreat", "a-r")), (("arrive", "a", small), 0), (("arrive", "a", great), ("FullRoom", "a")),
            (("arrive", "b", small), ("FullRoom", "b"))))
        self.assertEqual((switch.depart(), switch.keeps_of("a")), (("a", 0), (("r", (("v", 14),)),)))
        self.assertEqual(switch.counts_of("a"), (1, 2, 1))
        # What is refused uses no number of the switch and none of the tenant.
        switch.arrive("a", small)
        self.assertEqual(switch.read_back().all_lines()[1], (((4, 1), 1),))

    def test_numbers_of_the_switch_and_of_the_tenant(self):
        text = "root r\nclass * r\nat r\n  keep v 0\n  in\n    rank number\n  out\n    set v number + 50"
        switch = Switch(PAIRS, "come(mount a mount b)", 9)
        switch.mount("a", text, 4, False)
        switch.mount("b", text, 4, False)
        self.assertEqual([switch.arrive(place, (0, 1, 0, ())) for place in "abba"], [0, 1, 2, 3])
        self.assertEqual(switch.read_back().all_lines(), (
            (((0,), 0), ((1,), 1), ((2,), 1), ((3,), 0)), (((0,), 0), ((1,), 3)), (((0,), 1), ((1,), 2))))
        self.assertEqual([switch.depart() for _ in range(3)], [("a", 0), ("b", 1), ("b", 2)])
        self.assertEqual((switch.keeps_of("a"), switch.keeps_of("b")), ((("r", (("v", 50),)),), (("r", (("v", 51),)),)))
        switch.unmount("b")
        switch.mount("b", text, 4, False)
        # Since its mount.
        self.assertEqual((switch.counts_of("b"), switch.arrive("b", (0, 1, 0, ()))), ((0, 0, 0), 4))
        self.assertEqual(switch.read_back().all_lines()[2], (((0,), 4),))

    def test_ranks_at_the_forks(self):
        switch = Switch((TWO, ((), TWO), ()), "due(small(mount a mount b) turns:1:2(mount c strict(mount d mount e)))", 20)
        for place in "abcde":
            switch.mount(place, Q, 4, False)
        for place, facts in (("d", (0, 3, 9, ())), ("b", (1, 4, 7, ())), ("c", (2, 5, 6, ())), ("e", (3, 6, 5, ())), ("c", (4, 7, 4, ()))):
            switch.arrive(place, facts)
        lines = switch.read_back().all_lines()
        self.assertEqual(lines[0], (((4,), 1), ((5,), 1), ((6,), 1), ((7,), 0), ((9,), 1)))
        self.assertEqual(lines[1], (((4,), 1),))
        self.assertEqual(lines[4], (((0,), 1), ((0,), 0), ((1,), 1), ((2,), 0)))
        self.assertEqual(lines[6], (((0,), 0), ((1,), 1)))

    def turns_lines(self, switch):
        return [rank[0] for rank, _ in switch.read_back().all_lines()[0]]

    def test_what_turns_keep(self):
        switch = Switch(PAIRS, "turns:1:2(mount a mount b)", 9)
        switch.mount("a", GREAT, 2, False)
        switch.mount("b", Q, 5, False)
        for place in "aab":
            switch.arrive(place, (0, 1, 0, ()))
        self.assertEqual(self.turns_lines(switch), [0, 0, 2])
        # A refused packet changes nothing.
        self.assertEqual(raised(switch.arrive, "a", (0, 1, 0, (MOST_WORTH,))), ("FullRoom", "a"))
        self.assertEqual([switch.depart() for _ in range(3)], [("a", 0), ("b", 2), ("a", 1)])
        self.assertEqual(raised(switch.arrive, "a", (0, 1, 0, (MOST_WORTH,))), ("TooGreat", "a-r"))
        # v is 2 now, ea 4, eb 1: so they stay, whatever happens to the places.
        switch.unmount("b")
        switch.mount("b", GREAT, 5, True)
        switch.exchange("a", Q)
        switch.move_to(COMB)
        self.assertEqual(switch.chip_standing().form_of(), COMB)
        for place in "abb":
            switch.arrive(place, (0, 1, 0, ()))
        self.assertEqual(self.turns_lines(switch), [2, 3, 4])

    def test_exchange(self):
        switch = Switch(LONG, "come(mount a mount b)", 9)
        switch.mount("a", Q, 4, False)
        for stamp in (5, 3, 4):
            switch.arrive("a", (stamp, 1, stamp, ()))
        self.assertEqual(switch.order(), (("a", 1), ("a", 2), ("a", 0)))
        switch.exchange(place="a", text=discipline_policy("strict(due small)").replace("class 1 q1\n", "class 4 q0\n").replace("class 0 q0\n", "class 3 q1\n"))
        self.assertEqual(switch.order(), (("a", 1), ("a", 2), ("a", 0)))
        self.assertEqual(switch.read_back().all_lines(), (
            (((0,), 0), ((1,), 0), ((2,), 0)), (((), 1), ((), 0), ((), 1)), (((), 2),), (((), 1), ((), 0)), ()))
        # What comes later stands behind, in the order of the place; and the counts stay.
        self.assertEqual(switch.arrive("a", (4, 1, -9, ())), 3)
        self.assertEqual((switch.order()[3], switch.counts_of("a")), (("a", 3), (4, 0, 0)))
        self.assertEqual(raised(switch.arrive, "a", (4, 1, -9, ())), ("FullRoom", "a"))

    def test_outs_of_exchanged_packets_do_nothing(self):
        switch = Switch((), "mount a", 9)
        switch.mount("a", Q, 4, False)
        switch.arrive("a", (0, 1, 5, ()))
        switch.exchange("a", GREAT)
        switch.arrive("a", (0, 1, 5, (3,)))
        self.assertEqual(switch.read_back().all_lines(), ((((), 0), ((9, 1), 1)),))
        self.assertEqual((switch.depart(), switch.keeps_of("a")), (("a", 0), (("r", (("v", 1),)),)))
        self.assertEqual((switch.depart(), switch.keeps_of("a")), (("a", 1), (("r", (("v", 19),)),)))

    def test_what_is_handed_out_is_new(self):
        switch = Switch(PAIRS, "strict(mount a mount b)", 5)
        switch.mount("b", Q, 3, False)
        switch.arrive("b", (0, 1, 7, ()))
        chip, back, deeds, keeps, snapshot = switch.chip_standing(), switch.read_back(), switch.deeds(), switch.keeps_of("b"), switch.snapshot()
        chip.depart()
        back.depart()
        self.empty(snapshot)
        switch.depart()
        self.assertEqual((len(deeds), keeps, len(switch.deeds()), switch.counts_of("b")), (2, (("q", ()),), 3, (1, 0, 1)))
        self.assertEqual(switch.order(), ())

    def empty(self, thing):
        """Empties all lists in the thing."""
        for part in thing:
            if isinstance(part, (tuple, list)):
                self.empty(part)
        if isinstance(thing, list):
            thing.clear()

    def test_restored_goes_on_apart(self):
        switch = Switch(PAIRS, "turns:1:3(mount a mount b)", 5)
        switch.mount("b", GREAT, 3, True)
        switch.arrive("b", (0, 1, 7, (2,)))
        beside = restored(switch.snapshot())
        beside.depart()
        beside.mount("a", Q, 1, False)
        self.assertEqual((switch.order(), beside.order(), switch.keeps_of("b")), ((("b", 0),), (), (("r", (("v", 1),)),)))
        self.assertEqual((len(switch.deeds()), len(beside.deeds())), (2, 4))
        self.assertEqual(raised(switch.counts_of, "a"), ("Vacant", "a"))
        again = restored(beside.snapshot())
        self.assertEqual((again.deeds(), again.counts_of("b"), raised(again.mount, "a", Q, 1, False)), (beside.deeds(), (1, 0, 1), ("Taken", "a")))
        self.assertEqual(raised(restored(switch.snapshot()).mount, "a", Q, 9, False), ("TooLittle", 2))

    def test_wrong_parameters(self):
        check_refusals(self, Switch, {"chip": PAIRS, "text": "strict(mount a mount b)", "room": 0},
                       {"chip": NOT_SHAPES, "text": NOT_OPERATORS, "room": NOT_NUMBERS})
        switch = Switch(PAIRS, "strict(mount a mount b)", 5)
        switch.mount("a", Q, 2, False)
        before = switch.snapshot()
        bad = {"place": NOT_PLACES, "text": NOT_POLICY_TEXTS, "room": NOT_NUMBERS, "lean": NOT_LEAN, "chip": NOT_SHAPES, "facts": NOT_FACTS}
        good = {"place": "a", "text": Q, "room": 9, "lean": True, "chip": TWO, "facts": (0, 1, 2, ())}
        names = {"mount": ("place", "text", "room", "lean"), "unmount": ("place",), "exchange": ("place", "text"), "move_to": ("chip",),
                 "arrive": ("place", "facts"), "counts_of": ("place",), "keeps_of": ("place",)}
        for method, words in names.items():
            check_refusals(self, getattr(switch, method), {word: good[word] for word in words}, bad)
        self.assertEqual(switch.snapshot(), before)
        # These come ahead of Taken, Vacant and all others.
        self.assertEqual(raised(switch.mount, "a", Q, -1, False), ("NotUsable", "room", -1))
        self.assertEqual(raised(switch.exchange, "b", ""), ("NotUsable", "text", -1))
        self.assertEqual(raised(switch.arrive, "b", ()), ("NotUsable", "facts", -1))

    def test_names_of_twelve_signs(self):
        switch = Switch(PAIRS, "strict(mount abcdefghijkl mount abcdefghijkm)", 5)
        switch.mount("abcdefghijkm", Q, 3, False)
        self.assertEqual((switch.arrive("abcdefghijkm", (0, 1, 7, ())), switch.depart()), (0, ("abcdefghijkm", 0)))

    def test_a_chip_that_just_carries_the_composite(self):
        switch = Switch((TWO, ()), "come(mount a mount b)", 9)
        switch.mount("a", discipline_policy("due(come come)"), 4, False)
        self.assertEqual(switch.images_now(), (0, 1, 2))
        self.assertEqual(raised(switch.mount, "b", discipline_policy("due(come come)"), 4, False), ("NoLaying",))
        self.assertIsNone(switch.move_to(PAIRS))
        self.assertIsNone(switch.mount("b", discipline_policy("due(come come)"), 4, False))
        self.assertEqual(raised(switch.move_to, (TWO, ())), ("NoLaying",))
        self.assertEqual((switch.images_now(), switch.unmount("a"), switch.images_now()), ((0, 1, 2, 3), None, (0, 2, 3)))

    def test_many_packets_in_a_full_room(self):
        switch = Switch(PAIRS, "due(mount a mount b)", 700)
        switch.mount("a", Q, 350, False)
        switch.mount("b", Q, 350, False)
        for stamp in range(350):
            switch.arrive("a", (0, 1, -stamp, ()))
            switch.arrive("b", (0, 1, stamp, ()))
        self.assertEqual(raised(switch.arrive, "a", (0, 1, 0, ())), ("FullRoom", "a"))
        self.assertEqual([switch.depart() for _ in range(2)], [("a", 698), ("a", 696)])


class JournalTest(unittest.TestCase):
    MADE = (PAIRS, "strict(mount a mount b)", 5)

    def journal(self):
        switch = Switch(*self.MADE)
        switch.mount("a", Q, 2, False)
        switch.arrive("a", (0, 1, 9, ()))
        raised(switch.mount, "a", Q, 2, False)
        switch.arrive("a", (0, 1, 8, ()))
        raised(switch.arrive, "a", (0, 1, 7, ()))
        switch.depart()
        switch.exchange("a", GREAT)
        raised(switch.arrive, "a", (0, 1, 7, (MOST_WORTH,)))
        switch.move_to(LONG)
        switch.depart()
        switch.unmount("a")
        switch.depart()
        return switch

    def test_deeds(self):
        told = [told for _, told in self.journal().deeds()]
        self.assertTrue(same_kinds(told, [None, 0, 1, ("FullRoom", "a"), ("a", 1), None, ("TooGreat", "a-r"), None, ("a", 0), None, None]))
        self.assertEqual([deed for deed, _ in self.journal().deeds()][:4], [
            ("mount", "a", Q, 2, False), ("arrive", "a", (0, 1, 9, ())), ("arrive", "a", (0, 1, 8, ())), ("arrive", "a", (0, 1, 7, ()))])

    def test_replayed(self):
        switch = self.journal()
        again = replayed(chip=PAIRS, text=self.MADE[1], room=5, deeds=switch.deeds())
        self.assertEqual((again.deeds(), again.chip_standing().form_of()), (switch.deeds(), LONG))
        self.assertEqual(replayed(*self.MADE, ()).deeds(), ())

    def test_a_changed_journal_is_refused(self):
        deeds = self.journal().deeds()
        refused = ("NotUsable", "deeds", -1)
        for place in range(len(deeds)):
            for told in (7, "a", (), ("a", 9), True, [None], ("NoLaying",), 0.5):
                changed = deeds[:place] + ((deeds[place][0], told),) + deeds[place + 1:]
                self.assertEqual(raised(replayed, *self.MADE, changed), refused, changed)
        self.assertEqual(raised(replayed, *self.MADE, deeds[:1] + ((deeds[1][0], False),) + deeds[2:]), refused)
        # Deeds that are told as errors which no switch notes.
        more = {0: (("mount", "a", Q, 9, False), ("TooLittle", 5)), 1: (("mount", "a", Q, 2, False), ("Taken", "a")),
                2: (("unmount", "a"), ("Busy", "a")), 11: (("unmount", "a"), ("Vacant", "a")), 5: (("move_to", ()), ("NoLaying",))}
        for place, pair in more.items():
            changed = deeds[:place] + (pair,) + deeds[place:]
            self.assertEqual(plain_run(*self.MADE, changed)[0], tuple(told for _, told in changed))
            self.assertEqual(raised(replayed, *self.MADE, changed), refused)
        self.assertEqual(raised(replayed, *self.MADE, deeds[1:]), refused)
        for place in range(1, len(deeds)):
            self.assertIsNone(raised(replayed, *self.MADE, deeds[:place]))
        self.assertEqual(raised(replayed, PAIRS, self.MADE[1], 1, deeds), refused)

    def test_plain_run_ignores_what_was_told(self):
        deeds = self.journal().deeds()
        expected = tuple(told for _, told in deeds)
        for other in (None, True, [1], (2,), 0.5):
            told, standing = plain_run(chip=PAIRS, text=self.MADE[1], room=5, deeds=tuple((deed, other) for deed, _ in deeds))
            self.assertTrue(same_kinds(told, expected))
            self.assertTrue(standing.same_as(Standing(TWO)))
        told, standing = plain_run(*self.MADE, deeds[:3])
        self.assertEqual(standing.all_lines(), ((((0,), 0), ((0,), 0)), (((8,), 1), ((9,), 0)), ()))
        self.assertEqual(plain_run(*self.MADE, ())[0], ())

    def test_no_laying(self):
        for call in (replayed, plain_run):
            self.assertEqual(raised(call, (), "due(mount a mount b)", 3, ()), ("NoLaying",))
            self.assertEqual(raised(call, (), "due(mount a mount b)", 3, ((("unmount", "c"), None),)), ("NotUsable", "deeds", -1))

    def test_wrong_parameters(self):
        good = self.journal().deeds()
        deeds = [None, True, 0, "", [], list(good), good[0], good[:1] + (None,), ((good[0][0],),), ((good[0][0], None, None),), ([good[0][0], None],),
                 ((list(good[0][0]), None),), (("depart", None),), ((("depart", 1), None),), (((), None),), ((("Depart",), None),), (((True,), None),),
                 ((("order",), ()),), (((["depart"],), None),), ((("mount", "a", Q, 2), None),), ((("mount", "a", Q, 2, 0), None),), ((("mount", "a", Q, 2, False, 1), None),),
                 ((("mount", "c", Q, 2, False), None),), ((("mount", "a", Q[:-1], 2, False), None),), ((("mount", "a", Q, True, False), None),),
                 ((("mount", "a", Q, -1, False), None),), ((("unmount", 0), None),), ((("unmount", ["a"]), None),), ((("exchange", "a", ""), None),),
                 ((("exchange", "a", None), None),), ((("move_to", None), None),), ((("move_to", [()]), None),), ((("move_to", ((), True)), None),),
                 ((("arrive", "a", (0, 1, 2)), None),), ((("arrive", "a", (True, 1, 2, ())), None),), ((("arrive", "c", (0, 1, 2, ())), None),)]
        for call in (replayed, plain_run):
            check_refusals(self, call, {"chip": PAIRS, "text": self.MADE[1], "room": 5, "deeds": good},
                           {"chip": NOT_SHAPES, "text": NOT_OPERATORS, "room": NOT_NUMBERS, "deeds": deeds})

    def test_four_hundred_deeds(self):
        switch = Switch(PAIRS, "turns:1:2(mount a mount b)", 300)
        switch.mount("a", discipline_policy("small(due come)"), 150, False)
        switch.mount("b", Q, 150, False)
        for stamp in range(199):
            switch.arrive("ab"[stamp & 1], (stamp & 3, 1 + stamp % 7, -stamp, ()))
        for _ in range(199):
            switch.depart()
        self.assertEqual(len(switch.deeds()), 400)
        self.assertIsNone(audit_of(switch, switch.chip_standing()))
        self.assertEqual(replayed(PAIRS, "turns:1:2(mount a mount b)", 300, switch.deeds()).deeds(), switch.deeds())


class AuditTest(unittest.TestCase):
    def switch(self):
        switch = Switch(PAIRS, "strict(mount a mount b)", 5)
        switch.mount("a", discipline_policy("due(come small)"), 3, False)
        switch.arrive("a", (0, 1, 9, ()))
        switch.arrive("a", (1, 1, 8, ()))
        return switch

    def test_the_least_node_that_differs(self):
        switch = self.switch()
        held = switch.chip_standing()
        lines = held.all_lines()
        self.assertEqual(lines, ((((0,), 0), ((0,), 0)), (((8,), 1), ((9,), 0)), (((0,), 0),), (((1,), 1),), (), (), ()))
        self.assertIsNone(audit_of(switch=switch, standing=held))
        changed = {
            0: ((((0,), 0), ((1,), 0)),) + lines[1:],
            1: lines[:1] + ((((7,), 1), ((9,), 0)),) + lines[2:],
            2: lines[:2] + ((((0,), 5),),) + lines[3:],
            3: lines[:3] + ((((1, 0), 1),),) + lines[4:],
        }
        for node, rows in changed.items():
            self.assertEqual(audit_of(switch, standing_of(PAIRS, rows)), node)
        held.push(9, 3, ((5,), (), ()))
        self.assertEqual(audit_of(switch, held), 0)
        gone = switch.chip_standing()
        gone.depart()
        self.assertEqual(audit_of(switch, gone), 0)
        self.assertEqual(audit_of(switch, Standing(PAIRS)), 0)

    def test_after_a_move(self):
        switch = self.switch()
        old = switch.chip_standing()
        switch.move_to((COMB, ()))
        self.assertEqual(raised(audit_of, switch, old), ("NotUsable", "standing", -1))
        self.assertIsNone(audit_of(switch, switch.chip_standing()))
        switch.depart()
        self.assertIsNone(audit_of(restored(switch.snapshot()), switch.chip_standing()))

    def test_wrong_parameters(self):
        switch = self.switch()
        standings = NOT_STANDINGS + [Standing(COMB), Standing(()), Standing(LONG)]
        check_refusals(self, audit_of, {"switch": switch, "standing": Standing(PAIRS)},
                       {"switch": [None, True, 0, "", (), [], PAIRS, switch.snapshot()], "standing": standings})


class ConsequencesTest(unittest.TestCase):
    """[88] and (G13)."""

    def test_mounting_and_moving_change_no_departure(self):
        chance = random.Random(312)
        compared = 0
        for _ in range(40):
            text, told = random_operator(chance, chance.randint(2, 4))
            places = told[0]
            chip = chip_for(chance, text, 8)
            switch = Switch(chip, text, 60)
            for place in places[:-1]:
                told_by(switch, ("mount", place, some_policy(chance), 15, chance.random() < 0.5))
            for _ in range(14):
                told_by(switch, ("arrive", chance.choice(places), some_facts(chance)))
                if chance.random() < 0.2:
                    switch.depart()
            beside = restored(switch.snapshot())
            for _ in range(6):
                # These may be refused; what they change is no departure.
                told_by(beside, chance.choice([("mount", places[-1], some_policy(chance), 5, True), ("unmount", chance.choice(places)),
                                               ("move_to", some_chip(chance)), ("move_to", chip)]))
                beside = restored(beside.snapshot())
                self.assertEqual(beside.order(), switch.order())
            compared += len(switch.order())
            while switch.order():
                self.assertEqual(beside.depart(), switch.depart())
        self.assertGreater(compared, 200)

    def test_exchange_keeps_the_order(self):
        chance = random.Random(313)
        for _ in range(40):
            text, told = random_operator(chance, chance.randint(1, 3))
            places = told[0]
            switch = Switch(chip_for(chance, text, 10), text, 60)
            for place in places:
                told_by(switch, ("mount", place, some_policy(chance), 20, chance.random() < 0.5))
            for _ in range(12):
                told_by(switch, ("arrive", chance.choice(places), some_facts(chance)))
            place = chance.choice(places)
            before = switch.order()
            is_done = told_by(switch, ("exchange", place, some_policy(chance))) is None
            self.assertEqual(switch.order(), before)
            late = [told_by(switch, ("arrive", place, some_facts(chance))) for _ in range(4)]
            if is_done:
                held = [number for at, number in switch.order() if at == place]
                old = [number for at, number in before if at == place]
                self.assertEqual(held[:len(old)], old)
                self.assertEqual(set(held[len(old):]), {number for number in late if isinstance(number, int)})

    def test_mounted_exactly_if_it_can_be_laid(self):
        chance = random.Random(314)
        done = {True: 0, False: 0}
        for _ in range(120):
            text, told = random_operator(chance, chance.randint(1, 3))
            chip = random_shape(chance, chance.randint(3, 9), False)
            form = chance.choice([TWO, THREE, PAIRS, FLAT, COMB])
            try:
                switch = Switch(chip, text, 3)
            except BoughError:
                continue
            shapes = (form,) + (None,) * (len(told[0]) - 1)
            whole = composite_shape(text, shapes)
            fits = raised(least_laying, whole, chip, (1,) * len(Nodes(whole).leaves)) is None
            done[fits] += 1
            self.assertEqual(raised(switch.mount, told[0][0], free_policy(form), 3, False), None if fits else ("NoLaying",))
        self.assertGreater(min(done.values()), 20)

    def test_what_a_tenant_refuses_hangs_on_its_own(self):
        chance = random.Random(315)
        for _ in range(15):
            alone, beside = Switch((), "mount a", 9), Switch(FLAT, "turns:2:5(mount b mount a)", 30)
            alone.mount("a", GREAT, 4, False)
            beside.mount("a", GREAT, 4, False)
            beside.mount("b", Q, 20, False)
            for _ in range(50):
                pick = chance.random()
                facts = some_facts(chance)
                if pick < 0.4:
                    told = told_by(alone, ("arrive", "a", facts))
                    other = told_by(beside, ("arrive", "a", facts))
                    self.assertEqual(told if isinstance(told, tuple) else None, other if isinstance(other, tuple) else None)
                elif pick < 0.7:
                    told_by(beside, ("arrive", "b", facts))
                elif beside.depart() not in (None,) and beside.deeds()[-1][1][0] == "a":
                    alone.depart()
                self.assertEqual((alone.keeps_of("a"), alone.counts_of("a")), (beside.keeps_of("a"), beside.counts_of("a")))


if __name__ == "__main__":
    unittest.main()
