"""[57] and [59]: policies made of parts, lets put in, lets that are not read."""

import random
import unittest

from nextbough.exprtexts import expr_text, read_expr
from nextbough.policies import Policy, are_parts
from nextbough.policytexts import read_policy
from nextbough.putins import put_in, unread_lets
from nextbough.worths import worth_of
from support import NOT_PACKETS, NOT_PLAIN, THREE, TWO, check_refusals, deep, raised, same_kinds, tree_nodes

GREAT = 2 ** 200 - 1
ONE = ("int", 1)
A = ("name", "a")
V = ("name", "v")
RANK = ("rank", (ONE,))
# Two queues; class 3 goes to queue 1, all others to queue 0; two origins stand at the root.
ROOT = ("let", "a", ("+", V, ("name", "size"))), ("set", "v", A), ("let", "b", A), ("rank", (("name", "b"), ONE))
SHAPE, NAMES = TWO, ("r", "x", "y")
KEEPS = (("r", (("v", 0), ("w", -5))), ("old", (("v", 1),)), ("x", ()), ("y", ()), ("gone", (("a", GREAT),)))
ROUTES = ((3, 1, (("old", (RANK,)), ("y", (RANK,)))), ("*", 0, (("r", ROOT), ("x", (RANK,)))))
OUTS = ((0, "r", (), (("let", "a", ("name", "rank")), ("set", "v", A))), (0, "old", (4, -1), ()), (2, "y", (), ()))
GOOD = (SHAPE, NAMES, KEEPS, ROUTES, OUTS)


def with_part(place, thing):
    return GOOD[:place] + (thing,) + GOOD[place + 1:]


def with_section(origin, steps):
    """The sections of the route of class 3, the one at the root with this origin and these steps."""
    return with_part(3, ((3, 1, ((origin, steps), ("y", (RANK,)))), ROUTES[1]))


def with_out(node, origin, prefix, steps):
    return with_part(4, ((node, origin, prefix, steps),))


class PartsTest(unittest.TestCase):
    def fits(self, parts):
        self.assertIs(are_parts(parts), True, parts)
        self.assertTrue(same_kinds(Policy(parts).parts(), parts))

    def refuse(self, parts):
        self.assertIs(are_parts(thing=parts), False, parts)
        self.assertEqual(raised(Policy, parts=parts), ("NotUsable", "parts", -1), parts)

    def test_good_ones(self):
        self.fits(GOOD)
        self.fits(((), ("q",), (("q", ()),), (("*", 0, (("q", (RANK,)),)),), ()))
        self.fits(with_part(4, ()))
        # Origins need not be names of nodes; keeps of no section or out may stand there.
        self.fits(((), ("q",), (("z9", ()), ("q", (("v", 1),))), (("*", 0, (("z9", (RANK,)),)),), ()))
        self.fits(with_section("old", (("rank", (ONE,) * 8),)))
        self.fits(with_section("old", (("set", "v", V), ("set", "v", ONE), ("let", "z", V), RANK)))
        # A keep of one origin may be a let at another one, and a let may stand in each section anew.
        self.fits(with_section("old", (("let", "w", V), RANK)))
        self.fits(with_out(1, "x", (1,) * 8, (("let", "v", ("name", "f7")),)))
        self.fits(with_part(3, tuple((number, 0, ROUTES[1][2]) for number in range(100)) + (ROUTES[1],)))

    def test_the_frame(self):
        for thing in (None, True, 0, "abcde", (), [], list(GOOD), GOOD[:4], GOOD + ((),), deep(80)):
            self.refuse(thing)
        for place in range(5):
            for thing in (None, True, 0, "", "ab", [], (None,), ((),), (0,), [()]):
                self.refuse(with_part(place, thing))
        for form in NOT_PLAIN + [THREE, ()]:
            self.refuse(with_part(0, form))

    def test_names(self):
        for names in ((), ("r", "x"), ("r", "x", "y", "z"), ["r", "x", "y"], ("r", "x", "x"), ("r", "x", "root"),
                      ("r", "x", "f0"), ("r", "x", "Y"), ("r", "x", None), ("r", "x", ("y",)), ("r", "x", ["y"])):
            self.refuse(with_part(1, names))
        self.fits(with_part(1, ("z1", "z2", "z3")))

    def test_keeps(self):
        for row in (("r", (("v", 0), ("w", -5), ("v", 1))), ("r", (("v", True), ("w", 0))), ("r", (("v", 2 ** 200), ("w", 0))),
                    ("r", (("v", None), ("w", 0))), ("r", [("v", 0), ("w", 0)]), ("r", (["v", 0], ("w", 0))), ("r", (("v",), ("w", 0))),
                    ("r", (("v", 0, 0), ("w", 0))), ("r", (("v", 0), ("size", 0))), ("r", None), ("r",), ("r", (), ()), ["r", ()],
                    ("rank", (("v", 0), ("w", 0))), (None, (("v", 0),)), (["r"], (("v", 0),)), None, "rs", ("x", ())):
            self.refuse(with_part(2, (row,) + KEEPS[1:]))
        self.refuse(with_part(2, list(KEEPS)))
        self.refuse(with_part(2, KEEPS + (("r", ()),)))
        self.refuse(with_part(2, KEEPS[1:]))

    def test_routes(self):
        last, three = ROUTES[1], ROUTES[0]
        for routes in ((), (three,), (last, three), (last, last), (three, three, last), list(ROUTES), (list(three), last),
                       ((5,) + three[1:], three, last), ((100,) + three[1:], last), ((-1,) + three[1:], last),
                       ((True,) + three[1:], last), (("3",) + three[1:], last), ((None,) + three[1:], last),
                       (three, ("**",) + last[1:]), (three, (["*"],) + last[1:]), (three, (9,) + last[1:]),
                       (three[:2], last), (three + (0,), last), (None, last), (three, None),
                       ((3, 2, three[2]), last), ((3, True, three[2]), last), ((3, None, three[2]), last), ((3, -1, three[2]), last),
                       ((3, 1, three[2][:1]), last), ((3, 1, three[2] * 2), last), ((3, 1, list(three[2])), last),
                       ((3, 1, (three[2][0], None)), last), ((3, 1, (list(three[2][0]), three[2][1])), last),
                       ((3, 1, (three[2][0][:1], three[2][1])), last), ((3, 1, (three[2][0] + (0,), three[2][1])), last),
                       # An origin at two nodes, and one that is not among the keeps.
                       ((3, 1, (("y", (RANK,)), ("y", (RANK,)))), last), ((3, 1, (("x", (RANK,)), ("y", (RANK,)))), last),
                       ((3, 1, (("q", (RANK,)), ("y", (RANK,)))), last), ((3, 1, ((None, (RANK,)), ("y", (RANK,)))), last),
                       ((3, 1, ((["old"], (RANK,)), ("y", (RANK,)))), last)):
            self.refuse(with_part(3, routes))

    def test_steps_of_sections(self):
        for steps in ((), None, [RANK], (RANK, RANK), (RANK, ("let", "a", ONE)), (("let", "a", ONE),), (None, RANK), ("", RANK),
                      (("rank", ()),), (("rank", (ONE,) * 9),), (("rank", [ONE]),), (("rank", ONE),), (("rank", (1,)),),
                      (("rank",),), (("rank", (ONE,), 0),), (["rank", (ONE,)],), (("let", "a"), RANK), (("let", "a", ONE, 0), RANK),
                      (["let", "a", ONE], RANK), (("keep", "a", ONE), RANK), ((None, "a", ONE), RANK), ((["let"], "a", ONE), RANK),
                      (("let", "rank", ONE), RANK), (("let", "f0", ONE), RANK), (("let", "A", ONE), RANK), (("let", 1, ONE), RANK),
                      (("let", ["a"], ONE), RANK), (("let", "a", 1), RANK), (("let", "a", ("int", True)), RANK),
                      (("let", "a", ("int", 2 ** 200)), RANK), (("let", "a", None), RANK),
                      # A let that is a keep, or stood before; a set of no keep of this origin.
                      (("let", "v", ONE), RANK), (("let", "a", ONE), ("let", "a", ONE), RANK), (("set", "w", ONE), RANK),
                      (("let", "a", ONE), ("set", "a", ONE), RANK), (("set", "size", ONE), RANK),
                      # Names that are nothing here: of no let before, of another origin's keep, the rank.
                      (("rank", (A,)),), (("let", "a", A), RANK), (("rank", (A,)), ("let", "a", ONE)), (("set", "v", A), ("let", "a", ONE), RANK),
                      (("rank", (("name", "w"),)),), (("rank", (("name", "rank"),)),), (("let", "a", ("name", "rank")), RANK)):
            self.refuse(with_section("old", steps))

    def test_outs(self):
        for out in ((0, "r", ()), (0, "r", (), (), ()), [0, "r", (), ()], None, "abcd", (3, "y", (), ()), (-1, "r", (), ()),
                    (True, "x", (), ()), (None, "r", (), ()), (0, "q", (), ()), (0, None, (), ()), (0, ["r"], (), ()),
                    # At another node than its sections.
                    (1, "r", (), ()), (0, "y", (), ()),
                    (0, "r", None, ()), (0, "r", [], ()), (0, "r", (True,), ()), (0, "r", (1,) * 9, ()), (0, "r", (2 ** 200,), ()),
                    (0, "r", (), None), (0, "r", (), [])):
            self.refuse(with_part(4, (out,)))
        self.refuse(with_part(4, list(OUTS)))
        self.refuse(with_part(4, (OUTS[2], OUTS[0])))
        self.refuse(with_part(4, ((0, "gone", (), ()), (1, "gone", (), ()))))
        self.fits(with_part(4, ((1, "gone", (), ()), (1, "gone", (), ()), (1, "x", (), ()))))
        for steps in ((RANK,), (("let", "v", ONE),), (("let", "a", ONE), ("let", "a", ONE)), (("set", "z", ONE),), (("let", "a", ("name", "b")),),
                      (("set", "v", A),), (("set", "v", A), ("let", "a", ONE)), (None,), (("let", "a", None),), (["set", "v", ONE],)):
            self.refuse(with_out(0, "r", (), steps))
        self.fits(with_out(0, "r", (7,), (("set", "v", ("name", "rank")), ("let", "a", V), ("set", "w", A), ("set", "w", A))))

    def test_methods(self):
        policy = Policy(parts=GOOD)
        self.assertTrue(same_kinds(policy.parts(), GOOD))
        self.assertEqual((policy.shape_of(), policy.names_of()), (SHAPE, NAMES))
        self.assertEqual(policy.route_for(3), ROUTES[0][1:])
        for number in (0, 2, 4, 99, 100, 2 ** 60 - 1):
            self.assertEqual(policy.route_for(number=number), ROUTES[1][1:])
        for number in NOT_PACKETS + ["*"]:
            self.assertEqual(raised(policy.route_for, number), ("NotUsable", "number", -1))

    def test_true_is_not_class_one(self):
        parts = with_part(3, ((1,) + ROUTES[0][1:], ROUTES[1]))
        self.assertEqual(Policy(parts).route_for(1), ROUTES[0][1:])
        self.assertEqual(raised(Policy(parts).route_for, True), ("NotUsable", "number", -1))


def steps_of(*lines):
    """The steps of a section, from their texts."""
    steps = []
    for line in lines:
        word, rest = line.split(" ", 1)
        if word == "rank":
            steps.append((word, tuple(read_expr(text) for text in rest.split("; "))))
        else:
            name, text = rest.split(" ", 1)
            steps.append((word, name, read_expr(text)))
    return tuple(steps)


class PutInTest(unittest.TestCase):
    def texts(self, *lines):
        told = put_in(steps_of(*lines))
        return None if told is None else [expr_text(tree) for tree in told]

    def test_put_in(self):
        self.assertEqual(self.texts("rank 1"), ["1"])
        self.assertEqual(self.texts("let a v + 1", "rank a * a; v; size"), ["(v + 1) * (v + 1)", "v", "size"])
        self.assertEqual(self.texts("let a v", "set v a", "let b a - w", "let c max(b, a)", "rank part(c, 3); b"),
                         ["part(max(v - w, v), 3)", "v - w"])
        self.assertTrue(same_kinds(put_in(steps=(("let", "a", V), ("rank", (A,)))), (V,)))

    def test_five_hundred_nodes_in_one(self):
        # Each let doubles: a8 has 255 nodes, and a sum of k names has 2 * k - 1.
        doubling = ["let a1 1"] + [f"let a{k} a{k - 1} + a{k - 1}" for k in range(2, 9)]
        rest = " + ".join(["v"] * 122)
        for last, size in ((f"a8 - (part({rest}, 3))", 500), (f"a8 - ({rest} + size)", 501), (f"a8 - (1 + {rest})", 501)):
            lets = doubling + [f"let b {last}"]
            for lines in (doubling + [f"rank {last}"], lets + ["rank b"], lets + ["let c b", "rank c"]):
                told = put_in(steps_of(*lines))
                self.assertEqual(told is not None, size <= 500)
                if told is not None:
                    self.assertEqual(tree_nodes(told), size)

    def test_exactly_five_hundred(self):
        doubling = ["let a1 1"] + [f"let a{k} a{k - 1} + a{k - 1}" for k in range(2, 9)]
        # 255 + 127 + 63 + 31 + 15 + 7 = 498
        base = "rank a8; a7; a6; a5; a4; a3"
        self.assertEqual(tree_nodes(put_in(steps_of(*doubling, base))), 498)
        self.assertEqual(tree_nodes(put_in(steps_of(*doubling, base + "; 1; v"))), 500)
        self.assertIsNone(put_in(steps_of(*doubling, base + "; a2")))
        self.assertIsNone(put_in(steps_of(*doubling, base + "; 1; part(v, 2)")))

    def test_great_lets_that_are_not_read(self):
        doubling = ["let a1 1"] + [f"let a{k} a{k - 1} + a{k - 1}" for k in range(2, 120)]
        self.assertEqual(self.texts(*doubling, "rank a2"), ["1 + 1"])
        self.assertIsNone(self.texts(*doubling, "rank a2; a119"))
        self.assertIsNone(self.texts(*doubling, "rank a2; a9"))
        self.assertEqual(len(unread_lets(steps_of(*doubling, "rank a2"))), 117)

    def test_deep_lets(self):
        lets = ["let a0 v"] + [f"let a{k} " + "part(" * 30 + f"a{k - 1}" + ", 2)" * 30 for k in range(1, 17)]
        told = put_in(steps_of(*lets, "rank a16"))
        self.assertEqual(tree_nodes(told), 481)
        self.assertIsNone(put_in(steps_of(*lets, "rank a16; a1")))

    def test_worths_are_the_same(self):
        chance = random.Random(111)
        for _ in range(120):
            names, lines = ["v", "w", "size"], []
            for k in range(chance.randint(0, 5)):
                one, other = chance.choice(names), chance.choice(names)
                lines.append(f"let a{k} {one} {chance.choice('+-*')} max({other}, {chance.randint(0, 9)})")
                names.append(f"a{k}")
            lines.append(f"rank {chance.choice(names)}; {chance.choice(names)} - {chance.choice(names)}")
            steps = steps_of(*lines)
            table = {"v": 3, "w": -4, "size": 2}
            for _, name, tree in steps[:-1]:
                table[name] = worth_of(tree, tuple(table.items()))
            told = put_in(steps)
            for tree, inner in zip(steps[-1][1], told):
                self.assertEqual(worth_of(inner, (("v", 3), ("w", -4), ("size", 2))), worth_of(tree, tuple(table.items())))

    def test_unread(self):
        self.assertEqual(unread_lets(steps_of("rank 1")), ())
        self.assertEqual(unread_lets(steps=steps_of("let a 1", "let b a", "rank b")), ())
        self.assertEqual(unread_lets(steps_of("let a 1", "let b a", "rank 1")), ("a", "b"))
        # A set reads nothing here, and neither does a let that is not read.
        self.assertEqual(unread_lets(steps_of("let a 1", "set v a", "rank v")), ("a",))
        self.assertEqual(unread_lets(steps_of("let c 1", "let a 1", "let b a + c", "let d a", "rank d")), ("c", "b"))

    def test_steps_as_read(self):
        policy = read_policy("root q\nclass * q\nat q\n  keep v 0\n  in\n    let a v\n    let b a\n    set v b + 1\n    rank a, 2")
        steps = policy.route_for(0)[1][0][1]
        self.assertEqual(put_in(steps), (("name", "v"), ("int", 2)))
        self.assertEqual(unread_lets(steps), ("b",))

    def test_wrong_parameters(self):
        bad = [None, True, 0, "", [], (), [RANK], (RANK, RANK), (("let", "a", ONE),), (("rank", ()),), (("rank", (ONE,) * 9),),
               (("rank", [ONE]),), (("let", "a", ONE), ("let", "a", ONE), RANK), (("let", "size", ONE), RANK),
               (("let", "a", A), RANK), (("set", "b", A), ("let", "a", ONE), RANK), (("set", "a", ONE), ("let", "a", ONE), RANK),
               (("let", "a", ONE), ("set", "a", ONE), RANK), (("rank", (("name", "rank"),)),), (("rank", (("name", "root"),)),),
               (("let", "a", ("name", "rank")), RANK), (("set", "rank", ONE), RANK), (("let", "a", ("int", True)), RANK), deep(80)]
        for call in (put_in, unread_lets):
            check_refusals(self, call, {"steps": (RANK,)}, {"steps": bad})


if __name__ == "__main__":
    unittest.main()
