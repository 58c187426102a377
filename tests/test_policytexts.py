"""[58]: policies read from texts, and each word at each line where it can be."""

import random
import unittest

from nextbough.exprtexts import expr_text, read_expr
from nextbough.policies import are_parts
from nextbough.policytexts import read_policy
from support import NOT_TEXTS, Nodes, check_refusals, raised, random_shape, same_kinds

LINES = """root r
tree r (a b)
tree b (c d)
class 0 a
class 7 d
class * c
at r
  keep v 0
  keep w -12
  in a
    let s v + 1
    set v s
    rank s, size
  in b
    rank 1
  out
    let t rank
    set v t
at d
  keep e 5
  in
    rank stamp
  out
at b
  in d
    set x2 3
    rank 1
  in c
    rank max(0, 1), 2, 3, 4
at a
  in
    rank number
at c
  in
    let s f0
    rank s""".split("\n")
# The block of b needs its keep.
LINES.insert(LINES.index("at b") + 1, "  keep x2 7")
GOOD = "\n".join(LINES)


def at(line):
    return LINES.index(line)


def text_of(lines):
    return "\n".join(lines)


def told(text):
    return raised(read_policy, text)


class ReadTest(unittest.TestCase):
    def test_parts(self):
        one, two, number = ("int", 1), ("int", 2), ("name", "number")
        v, s = ("name", "v"), ("name", "s")
        root_a = (("let", "s", ("+", v, one)), ("set", "v", s), ("rank", (s, ("name", "size"))))
        root_b = (("rank", (one,)),)
        b_c = (("rank", (("max", ("int", 0), one), two, ("int", 3), ("int", 4))),)
        b_d = (("set", "x2", ("int", 3)), ("rank", (one,)))
        at_c = (("let", "s", ("name", "f0")), ("rank", (s,)))
        policy = read_policy(text=GOOD)
        parts = (
            ((), ((), ())),
            ("r", "a", "b", "c", "d"),
            (("r", (("v", 0), ("w", -12))), ("a", ()), ("b", (("x2", 7),)), ("c", ()), ("d", (("e", 5),))),
            (
                (0, 0, (("r", root_a), ("a", (("rank", (number,)),)))),
                (7, 2, (("r", root_b), ("b", b_d), ("d", (("rank", (("name", "stamp"),)),)))),
                ("*", 1, (("r", root_b), ("b", b_c), ("c", at_c))),
            ),
            ((0, "r", (), (("let", "t", ("name", "rank")), ("set", "v", ("name", "t")))), (4, "d", (), ())),
        )
        self.assertTrue(same_kinds(policy.parts(), parts))
        self.assertTrue(are_parts(policy.parts()))

    def test_one_queue(self):
        parts = read_policy("root q\nclass * q\nat q\n  in\n    rank 5").parts()
        self.assertEqual(parts, ((), ("q",), (("q", ()),), (("*", 0, (("q", (("rank", (("int", 5),)),)),)),), ()))

    def test_blocks_and_sections_in_any_sequence(self):
        chance = random.Random(5)
        starts = [line for line in range(len(LINES)) if LINES[line].startswith("at ")] + [len(LINES)]
        blocks = [LINES[low:high] for low, high in zip(starts, starts[1:])]
        for _ in range(10):
            chance.shuffle(blocks)
            text = text_of(LINES[:starts[0]] + [line for block in blocks for line in block])
            self.assertEqual(read_policy(text).parts(), read_policy(GOOD).parts())
        swapped = LINES[:1] + [LINES[2], LINES[1]] + LINES[3:]
        self.assertEqual(read_policy(text_of(swapped)).parts(), read_policy(GOOD).parts())

    def test_random_shapes(self):
        chance = random.Random(8)
        for _ in range(40):
            form = random_shape(chance, chance.randint(1, 16), True, 6)
            nodes = Nodes(form)
            if max(len(above) for above in nodes.above) > 7:
                continue
            names = [f"n{k}" for k in range(len(nodes.shapes))]
            chance.shuffle(names)
            lines = [f"root {names[0]}"]
            for fork in nodes.forks():
                lines.append(f"tree {names[fork]} ({' '.join(names[kid] for kid in nodes.kids[fork])})")
            queues = {number: chance.randrange(len(nodes.leaves)) for number in sorted(chance.sample(range(100), 6))}
            lines += [f"class {number} {names[nodes.leaves[queue]]}" for number, queue in sorted(queues.items())]
            lines.append(f"class * {names[nodes.leaves[0]]}")
            for node, name in enumerate(names):
                lines.append(f"at {name}")
                for section in [f"  in {names[kid]}" for kid in nodes.kids[node]] or ["  in"]:
                    lines += [section, f"    rank {node}, {len(lines)}"]
            policy = read_policy(text_of(lines))
            self.assertEqual((policy.shape_of(), policy.names_of()), (form, tuple(names)))
            for number in range(100):
                queue, sections = policy.route_for(number)
                self.assertEqual(queue, queues.get(number, 0))
                path = nodes.path(queue)
                self.assertEqual([origin for origin, _ in sections], [names[node] for node in path])
                for place, (_, steps) in enumerate(sections):
                    row = lines.index(f"at {names[path[place]]}") + 1
                    if place + 1 < len(path):
                        row = lines.index(f"  in {names[path[place + 1]]}")
                    self.assertEqual(steps, (("rank", (("int", path[place]), ("int", row))),))

    def test_limits_that_are_met(self):
        # Twelve steps, sixty nodes, seven forks above a queue, sixteen queues, a name of twelve signs.
        lines = list(LINES)
        lines[at("    rank number"):at("    rank number") + 1] = [f"    let l{k} 1" for k in range(11)] + ["    rank l10"]
        out = lines.index("  out") + 1
        lines[out:out + 2] = [f"    set v rank + {k}" for k in range(12)]
        self.assertIsNone(told(text_of(lines)))
        lines.insert(out, "    set w 1")
        self.assertEqual(told(text_of(lines)), ("InvalidPolicy", out + 12, "limit"))
        self.assertIsNone(told(one_queue(60)))
        self.assertEqual(told(one_queue(61)), ("InvalidPolicy", 4, "limit"))
        self.assertIsNone(told(comb(7)))
        self.assertEqual(told(comb(8)), ("InvalidPolicy", 0, "limit"))
        # Tree lines may come in another sequence.
        lines = comb(7).split("\n")
        self.assertIsNone(told(text_of(lines[:1] + lines[7:0:-1] + lines[8:])))
        lines = comb(8).split("\n")
        self.assertEqual(told(text_of(lines[:1] + lines[8:0:-1] + lines[9:])), ("InvalidPolicy", 0, "limit"))
        self.assertIsNone(told(wide(16)))
        self.assertEqual(told(wide(17)), ("InvalidPolicy", 0, "limit"))
        self.assertEqual(told(comb(60)), ("InvalidPolicy", 0, "limit"))
        named = {"root r": "root abcdefghijkl", "tree r (a b)": "tree abcdefghijkl (a b)", "at r": "at abcdefghijkl"}
        self.assertIsNone(told(text_of(named.get(row, row) for row in LINES)))

    def test_wrong_parameters(self):
        check_refusals(self, read_policy, {"text": GOOD}, {"text": NOT_TEXTS})


def one_queue(nodes):
    """A policy of one queue whose rank is an expression with so many nodes."""
    text = "1"
    for _ in range((nodes - 1) // 2):
        text += " + 1"
    if nodes % 2 == 0:
        text = f"part({text}, 3)"
    return f"root q\nclass * q\nat q\n  in\n    rank {text}"


def comb(forks):
    """A policy with so many forks one beneath the other."""
    lines = [f"tree k{k} (k{k + 1} q{k})" for k in range(forks)]
    blocks = []
    for k in range(forks):
        blocks += [f"at k{k}", f"  in k{k + 1}", "    rank 1", f"  in q{k}", "    rank 1", f"at q{k}", "  in", "    rank 1"]
    return text_of(["root k0"] + lines + [f"class * k{forks}"] + blocks + [f"at k{forks}", "  in", "    rank 1"])


def wide(queues):
    """A policy with so many queues, up to six at each fork of the root."""
    kids = [[f"q{k}" for k in range(low, min(low + 6, queues))] for low in range(0, queues, 6)]
    kids = [row if len(row) > 1 else row + row for row in kids]
    forks = {f"k{k}": row for k, row in enumerate(kids)}
    if len(set(kids[-1])) == 1:
        # A fork of the one queue left would be none, so it stands at the root.
        forks.pop(f"k{len(kids) - 1}")
        top = list(forks) + [kids[-1][0]]
    else:
        top = list(forks)
    forks = dict({"r": top}, **forks)
    lines = ["root r"] + [f"tree {name} ({' '.join(row)})" for name, row in forks.items()] + ["class * q0"]
    for name, row in forks.items():
        lines.append(f"at {name}")
        for kid in row:
            lines += [f"  in {kid}", "    rank 1"]
    for k in range(queues):
        lines += [f"at q{k}", "  in", "    rank 1"]
    return text_of(lines)


class FormTest(unittest.TestCase):
    def refuse(self, lines, line):
        self.assertEqual(told(text_of(lines)), ("InvalidPolicy", line, "form"), text_of(lines))

    def test_texts_cut_behind_each_line(self):
        is_out = False
        for line, row in enumerate(LINES):
            word = row.split()[0]
            is_out = word == "out" or is_out and word in ("let", "set")
            cut = LINES[:line + 1]
            if row.startswith("class *") or word == "rank" or is_out:
                self.assertNotEqual((told(text_of(cut)) or (0, 0, "none"))[2], "form", row)
            else:
                self.refuse(cut, line + 1)
        self.assertEqual(told(""), ("InvalidPolicy", 0, "form"))
        self.refuse(LINES + [""], len(LINES))
        self.refuse([""] + LINES, 0)

    def test_each_line_left_out_or_cut(self):
        for line, row in enumerate(LINES):
            for less in {len(row) - 1, len(row) // 2, 1, 0}:
                cut = told(text_of(LINES[:line] + [row[:less]] + LINES[line + 1:]))
                if cut is not None and cut[2] == "form":
                    self.assertEqual(cut[1], line, (row[:less], cut))
            for more in (" ", "  ", "x y", "("):
                self.refuse(LINES[:line] + [row + more] + LINES[line + 1:], line)
                self.refuse(LINES[:line] + [more + row] + LINES[line + 1:], line)
        for line in range(1, len(LINES)):
            self.refuse(LINES[:line] + ["rest 1"] + LINES[line:], line)

    def test_a_line_where_it_may_not_stand(self):
        follow = {
            "": ["root"], "root": ["tree", "class", "star"], "tree": ["tree", "class", "star"], "class": ["class", "star"],
            "star": ["at"], "at": ["keep", "in"], "keep": ["keep", "in"], "in": ["let", "set", "rank"],
            "step": ["let", "set", "rank"], "rank": ["in", "out", "at"], "out": ["let", "set", "at"],
            "outstep": ["let", "set", "at"],
        }
        samples = {"root": "root r", "tree": "tree b (c d)", "class": "class 99 a", "star": "class * c", "at": "at r",
                   "keep": "  keep v 0", "in": "  in a", "out": "  out", "let": "    let z 1", "set": "    set v 1",
                   "rank": "    rank 1"}
        state, forks = "", ("r", "b")
        for line in range(len(LINES) + 1):
            block = [row for row in LINES[:line] if row.startswith("at ")][-1:]
            for word, sample in samples.items():
                if word == "in" and block and block[0][3:] not in forks:
                    sample = "  in"
                if word not in follow[state]:
                    self.refuse(LINES[:line] + [sample] + LINES[line:], line)
                    self.refuse(LINES[:line] + [sample], line)
            if line < len(LINES):
                word = LINES[line].split()[0]
                if word in ("let", "set"):
                    state = "outstep" if state in ("out", "outstep") else "step"
                else:
                    state = "star" if LINES[line].startswith("class *") else word

    def test_in_lines_of_the_other_kind(self):
        for row, other in (("  in a", "  in"), ("  in c", "  in"), ("  in", "  in a")):
            line = at(row)
            self.refuse(LINES[:line] + [other] + LINES[line + 1:], line)

    def test_classes(self):
        line = at("class 7 d")
        for row in ("class 0 d", "class 00 d", "class 07 d", "class 100 d", "class -1 d", "class -0 d", "class d", "class ** d",
                    "class 7 D", "class 7", "class 7  d", "class 7 d a", "class x d", "class  d", "class 7 root", "class 9 f0"):
            self.refuse(LINES[:line] + [row] + LINES[line + 1:], line)
        for row in ("class 1 d", "class 99 d"):
            self.assertIsNone(told(text_of(LINES[:line] + [row] + LINES[line + 1:])))
        for row in ("class -1 a", "class 100 a", "class 00 a"):
            self.refuse(LINES[:line - 1] + [row] + LINES[line:], line - 1)
        self.refuse(LINES[:line] + ["class 7 d", "class 7 d"] + LINES[line + 1:], line + 1)
        self.refuse(LINES[:line] + ["class 7 d", "class 6 d"] + LINES[line + 1:], line + 1)
        self.refuse(LINES[:line + 1] + LINES[line + 2:], line + 1)
        self.refuse(LINES[:line + 2] + LINES[line + 1:], line + 2)
        self.refuse(LINES[:line] + ["class * d", "class 7 d"] + LINES[line + 1:], line + 1)

    def test_wrong_lines(self):
        wrong = {
            "root r": ["root R", "root", "root ", "root tree", "root r ", "Root r", " root r", "root r s", "root abcdefghijklm"],
            "tree b (c d)": ["tree b (c)", "tree b ()", "tree b (c d e f g h i)", "tree b(c d)", "tree b (c  d)", "tree b (c d",
                             "tree b c d", "tree b xc d)", "tree b (c dx", "tree b (c, d)", "tree b (c D)", "tree (c d)", "tree b  (c d)", "tree if (c d)",
                             "tree b ( c d)", "tree b (c d )", "tree b (c rank)", "tree b ((c d))"],
            "at d": ["at", "at ", "at D", "at d ", "  at d", "at at"],
            "  keep e 5": ["  keep e", "  keep e ", "  keep e 05", "  keep e -0", "  keep e x", "  keep e 1 + 1", "  keep e (5)",
                           "  keep E 5", "  keep size 5", "  keep e  5", "  keep 5", " keep e 5", "    keep e 5", "  keep e --5",
                           "  keep e 1234567890123456789", "  keep e 5 "],
            "  in a": ["  in A", "  in  a", "  in root", "  ina", "  inxa", "    in a", " in a", "  in a b", "  in abcdefghijklm", "  in "],
            "  in": ["  in ", "  inx", "  in d"],
            "  out": ["  out ", "    out", "  outx", "out", "  out a"],
            "    let s v + 1": ["    let s", "    let s ", "    let s v +", "    let s v+1", "    let s  v", "    let S v", "  let s v",
                                "    let size v", "    let rank 1", "    let s v, v", "    let s root", "    let s 01", "   let s v"],
            "    set v s": ["    set v", "    set v ", "    set rank s", "    set v s,", "    set v (s", "    set v s)", "  set v s"],
            "    rank s, size": ["    rank", "    rank ", "    rank s,", "    rank s, ", "    rank s,size", "    rank , s", "    rank s;",
                                 "    rank s, s, s, s, s", "    rank s, 07", "    rank max(s, s", "    rank max(s, s), s)", "  rank s"],
        }
        for row, others in wrong.items():
            line = at(row)
            for other in others:
                self.refuse(LINES[:line] + [other] + LINES[line + 1:], line)

    def test_right_lines(self):
        right = {
            "  keep e 5": ["  keep e 0", "  keep e -999999999999999999", "  keep roota 1", "  keep f8 5"],
            "    rank s, size": ["    rank max(s, w), (s), if(v, 1, rest(s, 2)) - 3, 0", "    rank s"],
        }
        for row, others in right.items():
            line = at(row)
            for other in others:
                self.assertIsNone(told(text_of(LINES[:line] + [other] + LINES[line + 1:])), other)


class WordsTest(unittest.TestCase):
    def refuse(self, word, line, **changes):
        """changes are lines by number, l7=[..] in the place of line 7; line is counted in the changed text."""
        lines = []
        for place, row in enumerate(LINES):
            lines += changes.get(f"l{place}", [row])
        self.assertEqual(told(text_of(lines)), ("InvalidPolicy", line, word), text_of(lines))

    def change(self, word, row, new, line=None):
        """The line row is replaced by the lines new; the word applies to the first of them, or to the line."""
        place = at(row)
        self.refuse(word, place if line is None else line, **{f"l{place}": new})

    def test_twice(self):
        self.change("twice", "tree b (c d)", ["tree b (c c)"])
        self.change("twice", "tree b (c d)", ["tree b (c a)"])
        self.change("twice", "tree b (c d)", ["tree b (b d)"])
        self.change("twice", "tree b (c d)", ["tree b (c d)", "tree b (e f)"], 3)
        self.change("twice", "tree b (c d)", ["tree b (c d)", "tree x (y z)", "tree x (u w)"], 4)
        self.change("twice", "at a", ["at d"])
        self.change("twice", "at c", ["at c", "  in", "    rank 1", "at c"], at("at c") + 3)
        self.change("twice", "at c", ["at zz", "  in", "    rank 1", "at zz", "  in", "    rank 1", "at c"], at("at c") + 3)
        self.change("twice", "  keep w -12", ["  keep v 1"])
        self.change("twice", "  in b", ["  in a"])
        self.change("twice", "  in b", ["  in zz", "    rank 1", "  in zz", "    rank 1", "  in b"], at("  in b") + 2)
        self.change("twice", "    rank number", ["    rank 1", "  in", "    rank 1"], at("    rank number") + 1)
        self.change("twice", "    let s v + 1", ["    let v 1"])
        self.change("twice", "    let t rank", ["    let w 1"])
        self.change("twice", "    let s v + 1", ["    let s 1", "    let s 2"], at("    let s v + 1") + 1)
        self.change("twice", "    let t rank", ["    let t 1", "    set v t", "    let t 2"], at("    let t rank") + 2)
        # The same let in another section, and the same keep at another node, are none.
        lines = text_of(LINES).replace("    rank 1\n  out", "    let s 1\n    let t 1\n    rank s + t\n  out", 1)
        self.assertIsNone(told(lines))
        self.assertIsNone(told(GOOD.replace("  keep e 5", "  keep v 5\n  keep s 5")))

    def test_name(self):
        self.change("name", "tree b (c d)", ["tree b (c d)", "tree x (y z)"], 3)
        self.change("name", "class 7 d", ["class 7 x"])
        self.change("name", "class 7 d", ["class 7 b"])
        self.change("name", "class * c", ["class * r"])
        self.change("name", "class * c", ["class * s"])
        self.change("name", "at c", ["at x", "  in", "    rank 1", "at c"])
        self.change("name", "  in a", ["  in c", "    rank 1", "  in a"])
        self.change("name", "  in b", ["  in r"])
        self.change("name", "    set v s", ["    set s s"])
        self.change("name", "    set v s", ["    set x2 s"])
        self.change("name", "    set v t", ["    set t t"])
        self.change("name", "    rank stamp", ["    set v 1", "    rank 1"])
        # A fork that is no node has children for the in lines of its block.
        self.change("name", "tree b (c d)", ["tree x (y z)", "tree b (c d)"], 2)

    def test_tree(self):
        cycle = GOOD.replace("tree b (c d)", "tree b (c r)").replace("  in d", "  in r")
        self.assertEqual(told(cycle.replace("class 7 d", "class 7 c").replace("at d", "at z9")), ("InvalidPolicy", cycle.split("\n").index("at d"), "name"))
        lines = GOOD.replace("tree b (c d)", "tree b (c d)\ntree m (n o1)\ntree n (m o2)")
        self.assertEqual(told(lines), ("InvalidPolicy", 0, "tree"))
        self.assertEqual(told("root r\ntree r (a b)\ntree b (r c)\nclass * a"), ("InvalidPolicy", 0, "tree"))
        self.assertEqual(told("root r\ntree r (r a)\nclass * a"), ("InvalidPolicy", 0, "tree"))
        self.assertEqual(told("root r\ntree a (b c)\ntree c (a d)\nclass * r"), ("InvalidPolicy", 0, "tree"))

    def test_lacks(self):
        for row in ("  in a", "  in b", "  in d", "  in c"):
            start = at(row)
            stop = next(line for line in range(start, len(LINES)) if LINES[line].startswith("    rank")) + 1
            block = max(line for line in range(start) if LINES[line].startswith("at "))
            self.assertEqual(told(text_of(LINES[:start] + LINES[stop:])), ("InvalidPolicy", block, "lacks"))
        starts = [line for line in range(len(LINES)) if LINES[line].startswith("at ")] + [len(LINES)]
        for start, stop in zip(starts, starts[1:]):
            self.assertEqual(told(text_of(LINES[:start] + LINES[stop:])), ("InvalidPolicy", -1, "lacks"))
        # A block that lacks an in comes ahead of a node without a block.
        start = at("  in c")
        stop = at("at c")
        self.assertEqual(told(text_of(LINES[:start] + LINES[start + 2:stop])), ("InvalidPolicy", at("at b"), "lacks"))
        self.assertEqual(told(text_of(LINES[:6])), ("InvalidPolicy", -1, "lacks"))

    def test_word(self):
        self.change("word", "    let s v + 1", ["    let s s"])
        self.change("word", "    let s v + 1", ["    let s v + rank"])
        self.change("word", "    set v s", ["    set v max(1, e)"])
        self.change("word", "    rank s, size", ["    rank s, sizes"])
        self.change("word", "    rank 1", ["    rank s"])
        self.change("word", "    rank stamp", ["    rank v"])
        self.change("word", "    rank stamp", ["    rank rank"])
        self.change("word", "    let t rank", ["    let t s"])
        self.change("word", "    set v t", ["    set v t - part(x, 3)"])
        # A let that comes only later.
        self.change("word", "    let s v + 1", ["    let q1 q2", "    let q2 1", "    let s q1"])

    def test_limit(self):
        place = at("    rank number")
        for many in (12, 13, 15):
            steps = [f"    let l{k} 1" for k in range(many)] + ["    rank number"]
            self.refuse("limit", place + 12, **{f"l{place}": steps})
        great = " + ".join(["1"] * 31)
        self.change("limit", "    rank s, size", [f"    rank s, {great}"])
        self.change("limit", "    let s v + 1", [f"    let s {great}"])
        self.change("limit", "    set v t", [f"    set v {great}"])
        # Steps count anew in each section and out.
        lines = [f"    let l{k} 1" for k in range(11)]
        self.assertIsNone(told(text_of(LINES[:-1] + lines[:10] + ["    rank s", "  out"] + lines)))
        self.assertEqual(told(wide(17).replace("    rank 1", f"    rank {great}", 1)),
                         ("InvalidPolicy", wide(17).split("\n").index("    rank 1"), "limit"))
        long = " + ".join(["1"] * 1500)
        self.assertEqual(told(one_queue(1).replace("rank 1", f"rank {long}")), ("InvalidPolicy", 4, "limit"))

    def test_two_faults_at_once(self):
        # For each word a text at fault, at an early line or a late one; the earlier word is told, wherever it stands.
        great = " + ".join(["1"] * 31)
        faults = {
            "form": [(at("    rank 1"), ["    rank 01"]), (len(LINES) - 1, ["    rank s "])],
            "twice": [(at("  keep w -12"), ["  keep v 1"]), (len(LINES) - 2, ["    let s 1", "    let s f0"])],
            "name": [(at("class 7 d"), ["class 7 x"]), (len(LINES) - 1, ["    set x 1", "    rank s"])],
            "tree": [(at("tree b (c d)"), ["tree b (c d)", "tree m (n o1)", "tree n (m o2)"])],
            "word": [(at("    let s v + 1"), ["    let s zz"]), (len(LINES) - 1, ["    rank t"])],
            "limit": [(at("    let t rank"), [f"    let t {great}"]), (at("    rank number"), [f"    rank {great}"])],
        }
        words = list(faults)
        for one in range(len(words)):
            for other in range(one + 1, len(words)):
                for first in faults[words[one]]:
                    for second in faults[words[other]]:
                        if first[0] == second[0]:
                            continue
                        lines = []
                        for place, row in enumerate(LINES):
                            lines += first[1] if place == first[0] else second[1] if place == second[0] else [row]
                        self.assertEqual(told(text_of(lines))[2], words[one], text_of(lines))

    def test_lacks_between_the_others(self):
        start = at("  in b")
        less = LINES[:start] + LINES[start + 2:]
        self.assertEqual(told(text_of(less)), ("InvalidPolicy", at("at r"), "lacks"))
        text = text_of(less)
        self.assertEqual(told(text.replace("    rank stamp", "    rank zz"))[2], "lacks")
        self.assertEqual(told(text.replace("    rank stamp", "    rank " + " + ".join(["1"] * 31)))[2], "lacks")
        self.assertEqual(told(text.replace("tree b (c d)", "tree b (c d)\ntree m (n o1)\ntree n (m o2)"))[2], "tree")
        self.assertEqual(told(text.replace("    rank stamp", "    set zz 1\n    rank 1"))[2], "name")
        self.assertEqual(told(text.replace("  keep e 5", "  keep e 5\n  keep e 5"))[2], "twice")
        self.assertEqual(told(text.replace("  keep e 5", "  keep e 05"))[2], "form")

    def test_the_first_line_of_a_word(self):
        text = GOOD.replace("    rank stamp", "    rank zz").replace("    rank number", "    rank yy")
        self.assertEqual(told(text), ("InvalidPolicy", at("    rank stamp"), "word"))
        text = GOOD.replace("class 7 d", "class 7 xx").replace("    set v t", "    set t t")
        self.assertEqual(told(text), ("InvalidPolicy", at("class 7 d"), "name"))
        text = GOOD.replace("  keep w -12", "  keep v 1").replace("tree b (c d)", "tree b (c c)")
        self.assertEqual(told(text), ("InvalidPolicy", 2, "twice"))


class ExpressionsTest(unittest.TestCase):
    def test_each_expression_stands_as_read(self):
        for text in ("-5", "a * (b - 2)", "if(a, max(1, b), rest(f3, 9))", "class + number"):
            policy = read_policy(f"root q\nclass * q\nat q\n  keep a 1\n  keep b 2\n  in\n    rank {text}, 0")
            tree = policy.route_for(0)[1][0][1][0][1][0]
            self.assertEqual(tree, read_expr(text))
            self.assertEqual(expr_text(tree), text)


if __name__ == "__main__":
    unittest.main()
