"""[80], [81]: operators and composites."""

import random
import unittest

from nextbough.composites import can_mount, composite_shape, place_nodes
from nextbough.operators import read_operator
from nextbough.packing import can_lay
from support import (COMB, FLAT, LONG, NOT_PLAIN, NOT_SHAPES, NOT_TEXTS, PAIRS, SIX, THREE, TWO, Beginnings, Nodes, check_refusals,
                     longest_beginning, near_texts, raised, random_operator, random_shape, same_kinds)


class OperatorTest(unittest.TestCase):
    def test_examples(self):
        self.assertEqual(read_operator(text="turns:2:1(mount a mount b)"), (("a", "b"), (("turns", (2, 1)),), ((), ())))
        self.assertEqual(raised(read_operator, "due(mount a mount a)"), ("InvalidText", 18))
        self.assertEqual(raised(read_operator, "turns:1("), ("InvalidText", 7))

    def test_what_is_read(self):
        self.assertEqual(read_operator("mount abcdefghijk9"), (("abcdefghijk9",), (), ()))
        text = "strict(mount a1 turns:20:3:7(mount b due(mount c mount d) mount e) small(come(mount f mount g) mount h))"
        self.assertEqual(read_operator(text), (
            ("a1", "b", "c", "d", "e", "f", "g", "h"),
            (("strict", ()), ("turns", (20, 3, 7)), ("due", ()), ("small", ()), ("come", ())),
            ((), ((), TWO, ()), (TWO, ()))))
        # These words are names, too.
        self.assertEqual(read_operator("come(mount mount mount come mount due mount turns mount strict mount f8)"),
                         (("mount", "come", "due", "turns", "strict", "f8"), (("come", ()),), SIX))

    def test_sixteen_names_and_twelve_brackets(self):
        names = [f"p{k}" for k in range(16)]
        text = "come(%s)" % " ".join("due(%s)" % " ".join(f"mount {name}" for name in names[k:k + 4]) for k in range(0, 16, 4))
        self.assertEqual(read_operator(text)[0], tuple(names))
        text = "".join(f"strict(mount p{k} " for k in range(12)) + "mount z" + ")" * 12
        places, kinds, tree = read_operator(text)
        self.assertEqual((len(places), kinds, max(map(len, Nodes(tree).above))), (13, (("strict", ()),) * 12, 12))

    def test_by_the_words(self):
        chance = random.Random(261)
        for _ in range(100):
            text, told = random_operator(chance, chance.randint(1, 12))
            self.assertTrue(same_kinds(read_operator(text), told), text)

    def test_named_places(self):
        rows = {
            "": 0, "mount": 5, "mount ": 6, "mount  a": 6, "mount A": 6, "mount 1a": 6, "mount a ": 7, "mount a,": 7, "mount a)": 7,
            "mount a1b2c3d4e5f67": 18, "mount root": 10, "mount o": 7, "mount f0": 8, "mount f0(": 8,
            "mount class ": 11, "mount(": 5, "come": 4, "come ": 4, "come(": 5, "come(mount a": 12, "come(mount a)": 12, "come(mount a ": 13,
            "come(mount a mount b": 20, "come(mount a mount b) ": 21, "strict(due(mount a mount b)": 27, "free": 0, "come(come": 9, "come(free": 5,
            "come(due mount a)": 8, "turns:1:2(mount a mount b mount c)": 25, "turns:1:2:3(mount a mount b)": 27, "turns:1:2 ": 9, "turns": 5,
            "turns:0": 6, "turns:21": 7, "mo": 2, "mb": 1, "x": 0,
            "come(mount a mount b mount c mount d mount e mount f mount g)": 52,
            # Equal names are told only if all else is right.
            "due(mount a mount a": 19, "due(mount a mount a ": 20, "due(mount a mount a mount b)": 18, "due(mount b mount a mount b mount a)": 26,
            "due(mount aa mount a mount aa)": 27, "due(mount a mount a))": 20, "due(mount o mount a)": 11, "come(mount come mount come)": 22,
            "come(mount a due(mount b mount a))": 31, "mount a\n": 7,
        }
        for text, at in rows.items():
            self.assertEqual(raised(read_operator, text), ("InvalidText", at), text)

    def test_longest_beginnings(self):
        chance = random.Random(262)
        refused = twice = 0
        for _ in range(25):
            text, _ = random_operator(chance, chance.randint(1, 5), names=("a", "b", "rooty", "root2", "f0f"))
            for near in near_texts(chance, text, "mountabcrfo019turns:( )", 14):
                if not Beginnings(near, ("mount",)).is_whole():
                    refused += 1
                    at = longest_beginning(near, lambda begun: Beginnings(begun, ("mount",)).begins())
                    self.assertEqual(raised(read_operator, near), ("InvalidText", at), near)
                    continue
                # The names stand behind "mount ", a word that may be a name, too.
                names, at = [], near.find("mount ") + 6
                while at > 5:
                    end = min(near.find(sign, at) % (len(near) + 1) for sign in " )")
                    names.append((near[at:end], at))
                    at = near.find("mount ", end) + 6
                seen = [name for name, _ in names]
                again = [at for k, (name, at) in enumerate(names) if name in seen[:k]]
                twice += len(again) > 0
                self.assertEqual(raised(read_operator, near), ("InvalidText", again[0]) if again else None, near)
        self.assertGreater(refused, 700)
        self.assertGreater(twice, 10)

    def test_wrong_parameters(self):
        check_refusals(self, read_operator, {"text": "mount a"}, {"text": NOT_TEXTS})


class CompositeTest(unittest.TestCase):
    def test_example(self):
        self.assertEqual(place_nodes("due(mount a mount b)", (TWO, None)), (1, 4))

    def test_shapes(self):
        text = "due(mount a strict(mount b mount c))"
        self.assertEqual(composite_shape(text=text, shapes=(None, (), THREE)), ((), ((), THREE)))
        self.assertEqual(composite_shape(text, (PAIRS, FLAT, None)), (PAIRS, (FLAT, ())))
        self.assertEqual(place_nodes(text=text, shapes=(PAIRS, FLAT, None)), (1, 9, 14))
        self.assertEqual((composite_shape("mount x", (COMB,)), place_nodes("mount x", (COMB,))), (COMB, (0,)))
        self.assertEqual((composite_shape("mount x", (None,)), place_nodes("mount x", (None,))), ((), (0,)))

    def test_by_the_words(self):
        chance = random.Random(263)
        for _ in range(80):
            text, (places, _, tree) = random_operator(chance, chance.randint(1, 6))
            shapes = tuple(None if chance.random() < 0.3 else random_shape(chance, chance.randint(1, 4), True) for _ in places)
            left = list(shapes)

            def filled(form):
                return tuple(filled(kid) for kid in form) if form else (left.pop(0) or ())

            whole = composite_shape(text, shapes)
            self.assertEqual(whole, filled(tree))
            nodes = place_nodes(text, shapes)
            held = Nodes(whole)
            small = Nodes(tree)
            for place, node in enumerate(nodes):
                # It is as deep as the place, and its bough is the shape there.
                self.assertEqual(held.shapes[node], shapes[place] or ())
                self.assertEqual(len(held.above[node]), len(small.above[small.leaves[place]]))
            self.assertEqual(sum((len(held.held[node]) for node in nodes)), len(held.leaves))
            self.assertEqual(list(nodes), sorted(nodes))
            for chip in (COMB, PAIRS, random_shape(chance, chance.randint(1, 12), False)):
                self.assertIs(can_mount(chip=chip, text=text, shapes=shapes), can_lay(whole, chip))

    def test_can_mount(self):
        text = "due(mount a mount b)"
        self.assertEqual([can_mount(PAIRS, text, shapes) for shapes in ((None, None), (TWO, TWO), (TWO, None), (THREE, None), (FLAT, None))],
                         [True, True, True, False, False])
        self.assertIs(can_mount(LONG, text, (TWO, None)), True)
        self.assertIs(can_mount((), "mount a", (None,)), True)
        self.assertIs(can_mount((), text, (None, None)), False)

    def test_wrong_parameters(self):
        texts = NOT_TEXTS + ["", "mount", "mount o", "due(mount a mount a)", "come(mount a)", "free", "due(mount a mount b) "]
        shapes = [None, True, 0, "", [], [TWO, None], (), (TWO,), (TWO, None, None), (TWO, True), (TWO, LONG), (TWO, [None]), (TWO, 0)]
        shapes += [(bad, None) for bad in NOT_PLAIN if bad is not None]
        good = {"text": "due(mount a mount b)", "shapes": (TWO, None)}
        for call in (composite_shape, place_nodes):
            check_refusals(self, call, good, {"text": texts, "shapes": shapes})
        check_refusals(self, can_mount, {"chip": PAIRS, **good}, {"chip": NOT_SHAPES, "text": texts, "shapes": shapes})


if __name__ == "__main__":
    unittest.main()
