"""[54] to [56]: names, worths and facts; the texts and worths of expressions; [62] of these."""

import random
import re
import unittest

from nextbough.exprtexts import expr_text, read_expr
from nextbough.factkinds import is_facts, is_name, is_worth
from nextbough.worths import worth_of
from support import NOT_TEXTS, WORDS, check_refusals, deep, python_value, raised, random_tree, same_kinds

GREAT = 2 ** 200 - 1
FACTS = ["class", "size", "stamp", "number"] + [f"f{k}" for k in range(8)]
BARRED = ["root", "tree", "class", "at", "keep", "in", "out", "let", "set", "rank", "max", "min", "if", "less", "same",
          "part", "rest", "size", "stamp", "number", "o"] + [f"f{k}" for k in range(8)]
NOT_WORTHS = [None, True, False, "", "1", (), (1,), [1], 2 ** 200, -2 ** 200, 2 ** 210]
NOT_TREES = [None, True, 0, "", "a", (), [], [("int", 1)], ["int", 1], ("int",), ("int", 1, 2), ("int", True),
             ("int", "1"), ("int", 2 ** 200), ("int", -2 ** 200), ("name",), ("name", "root"), ("name", "A"), ("name", 1),
             ("name", ""), ("name", "a" * 13), ("name", "max"), (1, 2), (None, ("int", 1)), (["int"], 1),
             ("+", ("int", 1)), ("+", ("int", 1), ("int", 1), ("int", 1)), ("+", ("int", 1), 1), ("+", 1, ("int", 1)),
             ("/", ("int", 1), ("int", 1)), ("if", ("int", 1), ("int", 1)), ("part", ("int", 1), 0),
             ("part", ("int", 1), True), ("rest", ("int", 1), -2), ("rest", ("int", 1), ("int", 2)),
             ("part", ("int", 1)), ("rest", ("int", 1), 2 ** 200), ("max", ("int", 1), None),
             ("max", ("int", 1), ["int", 1]), ("less", ("int", 1), ("name", "tree")), ("max",), ("o", ("int", 1), 1)]


class Recognizer:
    """Earley's algorithm on the grammar as it stands in the document: which beginnings are those of an EXPR."""

    RULES = {
        "EXPR": [["TERM"], ["EXPR", *" + ", "TERM"], ["EXPR", *" - ", "TERM"]],
        "TERM": [["FACTOR"], ["TERM", *" * ", "FACTOR"]],
        "FACTOR": [["INT"], ["NAME"], ["(", "EXPR", ")"]]
        + [[*word, "("] + ["EXPR", ",", " "] * (many - 1) + ["EXPR", ")"] for word, many in WORDS.items()]
        + [[*word, "(", "EXPR", ",", " ", "COUNT", ")"] for word in ("part", "rest")],
    }
    # The beginnings of the words that are told by a look at them, and the whole ones.
    LEXED = {
        "INT": (r"-?|-?[1-9][0-9]{0,17}|0", r"-?[1-9][0-9]{0,17}|0"),
        "COUNT": (r"|[1-9][0-9]{0,17}", r"[1-9][0-9]{0,17}"),
        "NAME": (r"|[a-z][a-z0-9]{0,11}", r"[a-z][a-z0-9]{0,11}"),
    }

    def whole(self, kind, text):
        if not re.fullmatch(self.LEXED[kind][1], text):
            return False
        return kind != "NAME" or text not in BARRED or text in FACTS or text == "rank"

    def run(self, text):
        """The length of the longest beginning of an EXPR, and whether the text is one."""
        rows = [self.closed([("EXPR", tuple(rule), 0, 0, "") for rule in self.RULES["EXPR"]], [], 0)]
        for at, sign in enumerate(text):
            row = []
            for head, rule, dot, start, seen in rows[at]:
                if dot == len(rule):
                    continue
                if rule[dot] in self.LEXED:
                    if re.fullmatch(self.LEXED[rule[dot]][0], seen + sign):
                        row.append((head, rule, dot, start, seen + sign))
                elif rule[dot] == sign:
                    row.append((head, rule, dot + 1, start, ""))
            row = self.closed(row, rows, at + 1)
            if not row:
                return at, False
            rows.append(row)
        done = any(head == "EXPR" and dot == len(rule) and start == 0 for head, rule, dot, start, _ in rows[-1])
        return len(text), done

    def closed(self, row, rows, at):
        row = list(dict.fromkeys(row))
        known = set(row)

        def add(item):
            if item not in known:
                known.add(item)
                row.append(item)

        for head, rule, dot, start, seen in row:
            if dot == len(rule):
                source = row if start == at else rows[start]
                for other in list(source):
                    if other[2] < len(other[1]) and other[1][other[2]] == head:
                        add((other[0], other[1], other[2] + 1, other[3], ""))
            elif rule[dot] in self.RULES:
                for more in self.RULES[rule[dot]]:
                    add((rule[dot], tuple(more), 0, at, ""))
            elif rule[dot] in self.LEXED and self.whole(rule[dot], seen):
                add((head, rule, dot + 1, start, ""))
        return row


class KindsTest(unittest.TestCase):
    def test_names(self):
        for thing in ("a", "z9", "abcdefghijkl", "roota", "f8", "f00", "f", "oo", "classes", "max1", "i", "n0"):
            self.assertIs(is_name(thing), True, thing)
        for thing in BARRED + ["", "1a", "A", "aB", "a_b", "a b", " a", "a ", "abcdefghijklm", "a-", "*", "a\n",
                               None, True, 0, (), ["a"], ("a",)]:
            self.assertIs(is_name(thing=thing), False, thing)

    def test_worths(self):
        for thing in (0, -1, GREAT, -GREAT):
            self.assertIs(is_worth(thing), True)
        for thing in NOT_WORTHS:
            self.assertIs(is_worth(thing=thing), False, thing)

    def test_facts(self):
        good = (7, 5, -3, (1, 2))
        for thing in (good, (0, 1, 0, ()), (99, 10 ** 6, 2 ** 60 - 1, (GREAT,) * 8), (99, 1, 1 - 2 ** 60, (-GREAT,))):
            self.assertIs(is_facts(thing), True, thing)
        for thing in (None, True, 0, "abcd", (), good[:3], good + (0,), list(good)):
            self.assertIs(is_facts(thing=thing), False, thing)
        bad = [(-1, 100, True, None, "1", (1,)), (0, -1, 10 ** 6 + 1, True, None, "5"),
               (2 ** 60, -2 ** 60, True, None, "0"), (None, 0, [], [1], (True,), ("1",), (2 ** 200,), (0,) * 9, ((),))]
        for place, things in enumerate(bad):
            for thing in things:
                self.assertIs(is_facts(good[:place] + (thing,) + good[place + 1:]), False, thing)

    def test_deep_values(self):
        for call in (is_name, is_worth, is_facts):
            self.assertIs(call(deep(80)), False)


class ReadTest(unittest.TestCase):
    def test_examples(self):
        self.assertEqual(read_expr("a - 2 * (b + 1)"),
                         ("-", ("name", "a"), ("*", ("int", 2), ("+", ("name", "b"), ("int", 1)))))
        for text, at in (("", 0), ("-0", 1), ("root", 4), ("part(a, 0)", 8), ("max(a, 07)", 8)):
            self.assertEqual(raised(read_expr, text=text), ("InvalidText", at))

    def test_trees(self):
        a, b, c = ("name", "a"), ("name", "b"), ("name", "c")
        rows = {
            "a": a, "0": ("int", 0), "-7": ("int", -7), "(a)": a, "((a))": a,
            "a + b - c": ("-", ("+", a, b), c), "a * b * c": ("*", ("*", a, b), c),
            "a - b * c": ("-", a, ("*", b, c)), "a * b - c": ("-", ("*", a, b), c),
            "a - (b - c)": ("-", a, ("-", b, c)), "a - -1": ("-", a, ("int", -1)), "-1 - -1 * -1":
            ("-", ("int", -1), ("*", ("int", -1), ("int", -1))),
            "if(a, b + 1, c)": ("if", a, ("+", b, ("int", 1)), c), "max(a, (b))": ("max", a, b),
            "part(a + b, 12)": ("part", ("+", a, b), 12), "rest(a, 1)": ("rest", a, 1),
            "less(a, same(b, c))": ("less", a, ("same", b, c)), "min(f0, rank)":
            ("min", ("name", "f0"), ("name", "rank")), "class * f7": ("*", ("name", "class"), ("name", "f7")),
            "999999999999999999": ("int", 10 ** 18 - 1), "-999999999999999999": ("int", 1 - 10 ** 18),
            "maxa": ("name", "maxa"), "if1 * parts": ("*", ("name", "if1"), ("name", "parts")),
            "abcdefghijkl": ("name", "abcdefghijkl"),
        }
        for text, tree in rows.items():
            self.assertTrue(same_kinds(read_expr(text), tree), text)

    def test_refusals(self):
        rows = {
            " a": 0, "A": 0, "+": 0, ")": 0, "*": 0, "(": 1, "()": 1, "-": 1, "--1": 1, "-a": 1, "- 1": 1, "00": 1, "01": 1,
            "0a": 1, "1a": 1, "1(": 1, "a(": 1, "a)": 1, "a,": 1, "a ": 2, "a b": 2, "a +": 3, "a+b": 1, "a  + b": 2,
            "a + ": 4, "a + +": 4, "a +b": 3, "a / b": 2, "a + b ": 6, "max": 3, "max ": 3, "max(": 4, "max()": 4,
            "max(a": 5, "max(a)": 5, "max(a,": 6, "max(a,b)": 6, "max(a, b": 8, "max(a, b, c)": 8, "max(a , b)": 6,
            "if(a, b)": 7, "if(a, b, c, d)": 10, "if ": 2, "o": 1, "o(": 1, "at": 2, "tree + a": 4, "in(a, b)": 2,
            "part(a)": 6, "part(a, b)": 8, "part(a, -1)": 8, "part(a, 01)": 8, "part(a, 1 + 1)": 9, "part(a, 1, 2)": 9,
            "part(a, (1))": 8, "rest(a, 1": 9, "rest(3, 1)(": 10, "abcdefghijklm": 12, "a\nb": 1, "f0x + f9 + set": 14,
            "1234567890123456789": 18, "-1234567890123456789": 19, "part(a, 1234567890123456789)": 26, "keep": 4,
        }
        for text, at in rows.items():
            self.assertEqual(raised(read_expr, text), ("InvalidText", at), text)

    def test_each_barred_word(self):
        for word in BARRED:
            if word in FACTS or word == "rank":
                self.assertEqual(read_expr(word), ("name", word))
                continue
            for text in (word, word + " ", word + " + a"):
                self.assertEqual(raised(read_expr, text), ("InvalidText", len(word)), text)
            self.assertEqual(raised(read_expr, "a * " + word), ("InvalidText", len(word) + 4))
            self.assertEqual(read_expr(word + "x"), ("name", word + "x"))
            if word not in WORDS and word not in ("part", "rest"):
                self.assertEqual(raised(read_expr, word + "(a, b)"), ("InvalidText", len(word)))

    def test_by_the_grammar(self):
        chance = random.Random(101)
        grammar = Recognizer()
        pool = list("abo1209 ()+-*,") + ["max(", "if(", "part(", ", ", " + ", " - ", "root", "f0", "rest(", "less("]
        accepted = 0
        for turn in range(1500):
            text = expr_text(random_tree(chance, chance.randint(0, 3)))
            if len(text) > 60:
                continue
            for _ in range(chance.randint(0, 2)):
                at = chance.randint(0, len(text))
                cut = chance.choice([0, 0, 1, 1, 2])
                text = text[:at] + chance.choice(pool + [""] * 6) + text[at + cut:]
            if chance.random() < 0.2:
                text = text[:chance.randint(0, len(text))]
            at, done = grammar.run(text)
            if done:
                accepted += 1
                self.assertIsNone(raised(read_expr, text), text)
            else:
                self.assertEqual(raised(read_expr, text), ("InvalidText", at), text)
        self.assertGreater(accepted, 300)

    def test_cut_at_each_place(self):
        text = "if(less(part(a - 12, 30), -5), max(rank, (b + 1) * f0), rest(same(size, 0), 1) - o1)"
        grammar = Recognizer()
        self.assertIsNone(raised(read_expr, text))
        for at in range(len(text)):
            # "i" alone is a name; each other beginning is none but a beginning.
            self.assertEqual(raised(read_expr, text[:at]), None if at == 1 else ("InvalidText", at))
            for more in ("x", " ", "(", "0", "-", ","):
                changed = text[:at] + more + text[at:]
                longest, done = grammar.run(changed)
                self.assertEqual(raised(read_expr, changed), None if done else ("InvalidText", longest), changed)

    def test_long_and_deep_texts(self):
        text = " + ".join(["a"] * 1900)
        tree = read_expr(text)
        many = 0
        while tree[0] == "+":
            self.assertEqual(tree[2], ("name", "a"))
            tree, many = tree[1], many + 1
        self.assertEqual(many, 1899)
        self.assertEqual(raised(read_expr, text + " +"), ("InvalidText", len(text) + 2))
        self.assertEqual(read_expr("(" * 30 + "a" + ")" * 30), ("name", "a"))
        self.assertEqual(raised(read_expr, "(" * 30 + "a" + ")" * 29), ("InvalidText", 60))
        self.assertEqual(raised(read_expr, "max(" * 30 + "a"), ("InvalidText", 121))

    def test_wrong_parameters(self):
        check_refusals(self, read_expr, {"text": "a"}, {"text": NOT_TEXTS})
        check_refusals(self, expr_text, {"tree": ("int", 1)}, {"tree": NOT_TREES})


class TextTest(unittest.TestCase):
    def test_examples(self):
        self.assertEqual(expr_text(("-", ("int", 3), ("-", ("int", 2), ("int", -1)))), "3 - (2 - -1)")

    def test_few_brackets(self):
        for text in ("a + b + c", "a + (b + c)", "a - b - c", "a - (b + c)", "a * b * c", "a * (b * c)", "(a + b) * c",
                     "a + b * c", "a * (b - c)", "-1 * -1", "max(a + b, c * (a - b))", "part(a + b, 2) * c",
                     "if(a - b, a * b, (a - b) * c)", "rest(a, 1) - part(b * (a + 1), 7)", "a - -5"):
            self.assertEqual(expr_text(tree=read_expr(text)), text)
        self.assertEqual(expr_text(read_expr("((a) + ((b * c)))")), "a + b * c")

    def test_there_and_back_without_a_needless_bracket(self):
        # [62], and that no pair of brackets can go.
        chance = random.Random(103)
        removed = 0
        for _ in range(600):
            tree = random_tree(chance, chance.randint(0, 4))
            text = expr_text(tree)
            self.assertTrue(same_kinds(read_expr(text), tree))
            opened = []
            for at, sign in enumerate(text):
                if sign == "(":
                    opened.append(at)
                elif sign == ")":
                    start = opened.pop()
                    if start == 0 or not text[start - 1].isalnum():
                        less = text[:start] + text[start + 1:at] + text[at + 1:]
                        removed += 1
                        if raised(read_expr, less) is None:
                            self.assertFalse(same_kinds(read_expr(less), tree), (text, less))
        self.assertGreater(removed, 100)

    def test_great_integers(self):
        self.assertEqual(expr_text(("*", ("int", GREAT), ("int", -GREAT))), f"{GREAT} * {-GREAT}")
        self.assertEqual(expr_text(("part", ("int", 1), GREAT)), f"part(1, {GREAT})")

    def test_sixty_nodes(self):
        tree = ("name", "a")
        for _ in range(59):
            tree = ("part", tree, 3)
        self.assertEqual(expr_text(tree), "part(" * 59 + "a" + ", 3)" * 59)
        left = right = ("name", "a")
        for _ in range(29):
            left, right = ("-", left, ("int", 1)), ("-", ("int", 1), right)
        self.assertEqual(expr_text(left), "a" + " - 1" * 29)
        self.assertEqual(expr_text(right), "1 - (" * 28 + "1 - a" + ")" * 28)


class WorthTest(unittest.TestCase):
    def test_example(self):
        self.assertEqual(worth_of(read_expr("if(same(rest(a, 3), 2), part(a, 3), a)"), (("a", -7),)), -3)

    def test_by_python(self):
        chance = random.Random(107)
        names = ("a", "b1", "rank", "f7", "size", "maxa", "o1")
        nothing = 0
        for _ in range(800):
            tree = random_tree(chance, chance.randint(0, 4), names, great=chance.random() < 0.3)
            table = {name: chance.choice([0, 1, -1, 5, -7, 10 ** 30, -10 ** 40]) for name in names}
            worths = []

            def walk(part):
                worths.append(python_value(expr_text(part), table))
                for below in part[1:]:
                    if isinstance(below, tuple):
                        walk(below)

            walk(tree)
            told = worth_of(tree=tree, names=tuple(table.items()))
            if all(abs(worth) <= GREAT for worth in worths):
                self.assertTrue(same_kinds(told, int(worths[0])))
            else:
                nothing += 1
                self.assertIsNone(told)
        self.assertGreater(nothing, 10)

    def test_all_that_comes_up_must_be_a_worth(self):
        great = (("a", GREAT), ("b", -GREAT))
        for text in ("a + 1", "b - 1", "a * 2", "a - b", "if(1, 0, a + 1)", "if(0, a + 1, 0)", "if(a + 1, 1, 1)",
                     "(a + 1) - (a + 1)", "max(a + 1, 0)", "less(a + 1, 0)", "rest(a + 1, 2)", "part(a + a, 2)",
                     "a * 2 * 0", "0 * (a * a)"):
            self.assertIsNone(worth_of(read_expr(text), great), text)
        for text, worth in (("a + 0", GREAT), ("a + b", 0), ("a * -1", -GREAT), ("part(b, 1)", -GREAT), ("0 * a", 0),
                            ("less(b, a)", 1), ("less(a, a)", 0), ("same(a, a)", 1), ("if(0, a, b)", -GREAT),
                            ("if(-1, a, b)", GREAT), ("min(a, b)", -GREAT), ("rest(b, 2)", 1)):
            self.assertEqual(worth_of(read_expr(text), great), worth, text)

    def test_floors(self):
        for a in range(-9, 10):
            for n in (1, 2, 3, 7):
                names = (("a", a),)
                self.assertEqual(worth_of(("part", ("name", "a"), n), names), a // n)
                self.assertEqual(worth_of(("rest", ("name", "a"), n), names), a - n * (a // n))

    def test_further_names(self):
        self.assertEqual(worth_of(("name", "rank"), (("b", 2), ("rank", 5), ("f0", 1))), 5)
        self.assertEqual(worth_of(("int", 4), ()), 4)

    def test_wrong_parameters(self):
        names = [None, True, 0, "", [], (), (("b", 1),), [("a", 1)], (("a", 1), ("a", 1)), (("a", True),), (("a", None),),
                 (("a", 2 ** 200),), (("a",),), (("a", 1, 2),), (["a", 1],), (("a", 1), ("root", 2)), (("a", 1), (1, 2)),
                 (("a", 1), None), (("a", 1), ("A", 1)), (("a", 1), (["a"], 1))]
        check_refusals(self, worth_of, {"tree": ("name", "a"), "names": (("a", 1),)},
                       {"tree": NOT_TREES, "names": names})


if __name__ == "__main__":
    unittest.main()
