"""[94] to [96]: shown values, lines of commands, texts of commands."""

import random
import unittest

from nextbough import errors
from nextbough.chiprunners import ChipRunner
from nextbough.commands import run_commands
from nextbough.commandwords import read_command
from nextbough.comparing import compare_shapes
from nextbough.defeats import lets_defeat, play_foe
from nextbough.defeattexts import defeat_text
from nextbough.disciplines import discipline_policy
from nextbough.freepolicies import free_policy
from nextbough.layingcounts import count_layings
from nextbough.layingnumbers import nth_laying
from nextbough.leaning import lean_policy
from nextbough.leastlayings import least_laying
from nextbough.packing import can_lay
from nextbough.plainforms import plain_form
from nextbough.plainruns import audit_of
from nextbough.plankeepers import PlanKeeper
from nextbough.plans import Plan
from nextbough.plantexts import plan_text
from nextbough.policytexts import read_policy
from nextbough.ranktexts import way_text
from nextbough.reading import move_standing
from nextbough.runners import Runner
from nextbough.shapetexts import shape_text
from nextbough.shows import show_value
from nextbough.snapshots import restored
from nextbough.standings import Standing
from nextbough.standingtexts import standing_text
from nextbough.switches import Switch
from nextbough.tabletexts import table_text
from nextbough.turnings import turned_form
from nextbough.whynots import lets_why_not, why_not
from support import (COMB, FLAT, LONG, NOT_TEXTS, PAIRS, THREE, TWO, Nodes, check_refusals, raised, random_shape, same_kinds,
                     sample_plans, sample_shapes)

Q = "root q\nclass * q\nat q\n  in\n    rank stamp"
KINDS = {
    "plain": "shape", "turned": "shape", "compare": "shape shape", "can": "plain shape", "count": "plain shape", "why": "plain shape",
    "least": "plain shape numbers", "nth": "plain shape number", "judge": "plain shape table", "defeat": "plain shape defeat",
    "foe": "plain shape kind numbers", "plan": "plan", "push": "number way", "depart": "", "chip": "", "lines": "", "moved": "plan",
    "policy": "text", "lean": "", "carry": "shape", "arrive": "facts", "next": "", "order": "", "keeps": "", "switch": "shape text number",
    "mount": "name text number lean", "unmount": "name", "exchange": "name text", "come": "name facts", "go": "", "moveto": "shape",
    "rows": "", "counts": "name", "images": "", "audit": "", "restart": "",
}
GOOD = {
    "shape": {"o": (), "((o o) o)": THREE, "(((o o)) o)": LONG},
    "plain": {"o": (), "((o o) (o o))": PAIRS},
    "number": {"0": 0, "17": 17, str(2 ** 60 - 1): 2 ** 60 - 1},
    "numbers": {"0": (0,), "3,0,12": (3, 0, 12), str(2 ** 60 - 1): (2 ** 60 - 1,)},
    "way": {"1:4/-": (1, ((4,), ())), "0:-3,2": (0, ((-3, 2),))},
    "table": {"1.0:3 0.12:1,2": ((1, 0, (3,)), (0, 12, (1, 2)))},
    "defeat": {"0:0/->0:5 at 0 due 1 shown 0": (((0, ((0,), ()), 0, ((5,),)),), 0, 1, 0)},
    "name": {"a": "a", "abcdefghij12": "abcdefghij12", "mount": "mount", "depart": "depart"},
    "facts": {"0,1,0": (0, 1, 0, ()), "99,1000000,-5,7,-8": (99, 10 ** 6, -5, (7, -8)), "1,2,3,1,2,3,4,5,6,7,8": (1, 2, 3, (1, 2, 3, 4, 5, 6, 7, 8)),
              f"1,2,{1 - 2 ** 60},{2 ** 200 - 1}": (1, 2, 1 - 2 ** 60, (2 ** 200 - 1,))},
    "kind": {"any": "any", "own": "own", "new": "new", "old": "old"},
    "lean": {"lean": True, "whole": False},
    "text": {"": "", "a;b": "a\nb", "come(due free)": "come(due free)", ";": "\n", "x ;y": "x \ny", Q.replace("\n", ";"): Q},
}
BAD = {
    "shape": ["", "()", "x", "(o", "o ", "o o", "(o o o o o o o)"],
    "plain": ["", "(o)", "(((o o)) o)", "x"],
    "number": ["", "-1", "01", "x", "1 ", "1,2", str(2 ** 60), "+1"],
    "numbers": ["", "1,", ",1", "1, 2", "-1", "01", str(2 ** 60), "1 2"],
    "way": ["", "1", "1:", "-1:0", "1:0/", "x"],
    "table": ["", "1.0", "1.0:", "1.0:1 ", "()"],
    "defeat": ["", "0:0>0:5", "0:0/->0:5 at 0 due 1", "at 0 due 1 shown 0"],
    "name": ["", "A", "1a", "root", "o", "f0", "abcdefghijklm", "a b", "a-b"],
    "facts": ["", "1,2", "0,0,0", "100,1,0", "-1,1,0", "0,1000001,0", "0,1,0,", "0,1,00", "0,1,0,1,2,3,4,5,6,7,8,9", "x", f"0,1,{2 ** 60}", f"0,1,0,{2 ** 200}",
              "0,1,0, 1", "()"],
    "kind": ["", "Any", "all", "any "],
    "lean": ["", "Lean", "True", "yes", "wholes"],
    "plan": ["", "o on o by 1", "(o) on o by 0", "o on o", "(o o) on (o o) by 0"],
}


class ShowValueTest(unittest.TestCase):
    def test_example(self):
        self.assertEqual(show_value((True, [], (-3,), errors.NotUsable("node", None))), "(yes, [], (-3), NotUsable(node, none))")

    def test_each_kind(self):
        held = Standing(TWO)
        held.push(8, 1, ((4,), ()))
        rows = [
            (None, "none"), (True, "yes"), (False, "no"), (0, "0"), (-12, "-12"), (10 ** 89, "1" + "0" * 89), ("", ""), ("a b", "a b"),
            ("a\n\nb", "a;;b"), ("none", "none"), ((), "()"), ((1,), "(1)"), ((1, (2, 3)), "(1, (2, 3))"), ([], "[]"), ([1], "[1]"),
            ([(), [None, "x\ny"]], "[(), [none, x;y]]"), (((),), "(())"), (held, standing_text(held)), (Plan(TWO, LONG, (1, 0)), "(o o) on (((o o)) o) by 1,0"),
            ((held, [Plan((), (), (0,))]), f"({standing_text(held)}, [o on o by 0])"),
        ]
        for thing, text in rows:
            self.assertEqual(show_value(thing=thing), text)

    def test_errors(self):
        fields = {"InvalidPaper": 2, "NotUsable": 2, "NoLaying": 0, "Unwritten": 1, "NoGap": 1, "TooGreat": 1, "NotMeltable": 2, "Taken": 1, "Vacant": 1,
                  "Busy": 1, "FullRoom": 1, "TooLittle": 1, "InvalidText": 1, "InvalidPolicy": 2, "InvalidCommand": 2}
        for name, many in fields.items():
            error = getattr(errors, name)(*("w", 5)[:many])
            self.assertEqual(show_value(error), f"{name}({', '.join(('w', '5')[:many])})")
            if many:
                deep = getattr(errors, name)(*([error, (True,)], None)[:many])
                inner = f"[{name}({', '.join(('w', '5')[:many])}), (yes)]"
                self.assertEqual(show_value((deep,)), f"({name}({', '.join((inner, 'none')[:many])}))")
                self.assertEqual(raised(show_value, getattr(errors, name)(*([0.5], 0)[:many])), ("NotUsable", "thing", -1))
        for family in ("BoughError", "PaperError", "ShapeError", "PolicyError", "SwitchError", "TextError"):
            self.assertEqual(raised(show_value, getattr(errors, family)("x")), ("NotUsable", "thing", -1))

    def test_anything_else(self):
        other = [0.5, {}, {1: 2}, set(), frozenset(), b"a", object(), int, len, ValueError("x"), KeyError("x"), range(3), 1j, read_policy(Q), Runner(read_policy(Q)),
                 PlanKeeper(Plan((), (), (0,))), Switch((), "mount a", 0), iter(())]
        for thing in other:
            for value in (thing, (thing,), [1, [thing]], ((), (None, thing)), errors.Taken(thing), errors.InvalidPaper("x", (thing,))):
                self.assertEqual(raised(show_value, value), ("NotUsable", "thing", -1), value)

    def test_eighty_deep(self):
        thing = "x"
        for _ in range(80):
            thing = (thing,)
        self.assertEqual(show_value(thing), "(" * 80 + "x" + ")" * 80)


class ReadCommandTest(unittest.TestCase):
    def test_example(self):
        self.assertTrue(same_kinds(read_command("push ; 8 ; 1:4/-"), ("push", 8, (1, ((4,), ())))))

    def check(self, command, expected):
        """Plans are compared by their text."""
        self.assertEqual(len(command), len(expected))
        for one, other in zip(command, expected):
            if isinstance(one, Plan):
                self.assertEqual(plan_text(one), other)
            else:
                self.assertTrue(same_kinds(one, other), (one, other))

    def test_each_word_with_each_kind(self):
        plans = {"(o o) on (((o o)) o) by 1,0": "(o o) on (((o o)) o) by 1,0"}
        for word, kinds in KINDS.items():
            kinds = kinds.split()
            rows = [list(dict(GOOD, plan=plans)[kind].items()) for kind in kinds]
            for turn in range(max([len(row) for row in rows], default=1)):
                row = [row[turn % len(row)] for row in rows]
                self.check(read_command(line=" ; ".join([word] + [text for text, _ in row])), (word,) + tuple(value for _, value in row))

    def test_wrong_arguments(self):
        for word, kinds in KINDS.items():
            kinds = kinds.split()
            right = [next(iter(dict(GOOD, plan={"o on o by 0": 0})[kind])) for kind in kinds]
            self.assertEqual(raised(read_command, " ; ".join([word] + right + ["x"])), ("InvalidCommand", 0, "many"))
            self.assertEqual(raised(read_command, " ; ".join([word] + right) + " ; "), ("InvalidCommand", 0, "many"))
            if kinds:
                self.assertEqual(raised(read_command, " ; ".join([word] + right[1:])), ("InvalidCommand", 0, "many"))
                self.assertEqual(raised(read_command, word), ("InvalidCommand", 0, "many"))
            for place, kind in enumerate(kinds):
                for bad in BAD.get(kind, []):
                    row = right[:place] + [bad] + right[place + 1:]
                    self.assertEqual(raised(read_command, " ; ".join([word] + row)), ("InvalidCommand", 0, kind), row)
                    # The first one that is not of its kind.
                    row = row[:place + 1] + ["()"] * (len(kinds) - place - 1)
                    self.assertEqual(raised(read_command, " ; ".join([word] + row)), ("InvalidCommand", 0, kind), row)

    def test_lines(self):
        rows = {"": "command", " ": "command", "Plain ; o": "command", "plain; o": "command", "plain ;o": "command", "plan text": "command", " plain ; o": "command",
                "count": "many", "depart ; ": "many", "depart ;": "command", "plain ; o ;": "shape", "plain ; o ; ": "many", "next ; 1": "many", "show ; 1": "command",
                "plain ;  ; o": "many", "plain ; ; o": "shape", "absent": "command", "push ; x ; y": "number", "push ; 1 ; y": "way"}
        for line, word in rows.items():
            self.assertEqual(raised(read_command, line), ("InvalidCommand", 0, word), line)
        # Cut at each " ; ", from the left.
        self.assertEqual(read_command("exchange ; a ; x; y ;z"), ("exchange", "a", "x\n y \nz"))
        self.assertEqual(raised(read_command, "policy ; ; ; ; "), ("InvalidCommand", 0, "many"))
        self.assertEqual(read_command("policy ; ;"), ("policy", "\n"))

    def test_wrong_parameters(self):
        check_refusals(self, read_command, {"line": "next"}, {"line": NOT_TEXTS})


def answered(call, *args):
    """How the answer is shown, by show_value."""
    try:
        return show_value(call(*args))
    except errors.BoughError as error:
        return show_value(error)


class RunCommandsTest(unittest.TestCase):
    def test_example(self):
        self.assertEqual(run_commands("count ; (o o) ; (o o o)\nplan ; o on o by 0\npush ; 7 ; 0:4\npush ; 7 ; 0:4\ndepart\ngo"),
                         ("6", "o on o by 0", "0:4", "NotUsable(number, -1)", "7", "absent"))

    def test_no_line(self):
        self.assertEqual(run_commands(text=""), ())
        self.assertEqual(raised(run_commands, "\n"), ("InvalidCommand", 0, "command"))
        self.assertEqual(raised(run_commands, "depart\n"), ("InvalidCommand", 1, "command"))

    def test_the_first_refused_line_refuses_all(self):
        rows = {"depart\nplain\nx": (1, "many"), "x\nplain": (0, "command"), "depart\ndepart\nplain ; x\nplain": (2, "shape"), "go\ngo\ngo\ncarry ; ()": (3, "shape")}
        for text, told in rows.items():
            self.assertEqual(raised(run_commands, text), ("InvalidCommand",) + told)

    def test_shapes(self):
        chance = random.Random(421)
        forms = sample_shapes(18, queues=6)
        for form in forms:
            other = random_shape(chance, chance.randint(1, 6), False)
            one, two = shape_text(form), shape_text(other)
            self.assertEqual(run_commands(f"plain ; {one}\nturned ; {one}\ncompare ; {one} ; {two}"),
                             (shape_text(plain_form(form)), shape_text(turned_form(form)), compare_shapes(form, other)))
            plain = plain_form(form)
            text = f"{shape_text(plain)} ; {two}"
            weights = [chance.randint(0, 9) for _ in range(len(Nodes(plain).leaves) + chance.choice([0, 0, 0, 1]))]
            number = chance.choice([0, 1, 5, 999])
            table = why_not(plain, other)
            told = run_commands("\n".join([f"can ; {text}", f"count ; {text}", f"why ; {text}", f"least ; {text} ; {','.join(map(str, weights))}",
                                           f"nth ; {text} ; {number}", f"judge ; {text} ; {table_text(table) if table else '0.0:1'}"]))
            self.assertEqual(told, (
                answered(can_lay, plain, other), answered(count_layings, plain, other), table_text(table) if table else "none",
                answered(least_laying, plain, other, tuple(weights)), answered(nth_laying, plain, other, number),
                answered(lets_why_not, plain, other, table or ((0, 0, (1,)),))))

    def test_named_answers(self):
        rows = {
            "can ; (o o) ; (o o)": "yes", "can ; (o o) ; o": "no", "count ; ((o o) o) ; (((o o) o) o)": "8", "why ; (o o) ; (o o)": "none", "why ; (o o) ; o": "0.0:1,2",
            "least ; ((o o) o) ; (((o o) o) o) ; 1,2,0": "(7, (0, 2, 3))", "least ; (o o) ; o ; 0,0": "NoLaying()", "least ; (o o) ; o ; 0": "NotUsable(weights, -1)",
            "nth ; ((o o) o) ; (((o o) o) o) ; 5": "(1, 2, 3)", "nth ; o ; o ; 1": "NotUsable(number, -1)", "nth ; o ; o ; 0": "(0)", "judge ; (o o) ; o ; 0.0:1,2": "1",
            "judge ; (o o) ; o ; 0.0:1": "InvalidPaper(masks, 0)", "judge ; o ; o ; 0.0:1": "InvalidPaper(shape, -1)", "plain ; (((o o)) o)": "((o o) o)",
            "turned ; ((o o) o)": "(o (o o))", "compare ; (((o o) o) o) ; (o o o o)": "stronger", "compare ; o ; (o)": "alike",
        }
        self.assertEqual(run_commands("\n".join(rows)), tuple(rows.values()))

    def test_the_foe(self):
        # [96]
        chance = random.Random(422)
        won = 0
        for plain, chip in ((PAIRS, COMB), (PAIRS, FLAT), (TWO, ()), (TWO, LONG), (THREE, COMB), (FLAT, PAIRS), ((), LONG), ((), ())):
            for kind in ("any", "own", "new", "old"):
                choices = [chance.randint(0, 9) for _ in range(chance.randint(1, 3))]
                shapes = f"{shape_text(plain)} ; {shape_text(chip)}"
                answer, = run_commands(f"foe ; {shapes} ; {kind} ; {','.join(map(str, choices))}")
                word, told = play_foe(plain, chip, kind, tuple(choices))
                if word == "won":
                    won += 1
                    self.assertEqual(answer, f"won {defeat_text(told)}")
                    self.assertEqual(run_commands(f"defeat ; {shapes} ; {answer[4:]}"), (str(lets_defeat(plain, chip, told)),))
                    changed = told[:2] + (told[3], told[3])
                    self.assertEqual(run_commands(f"defeat ; {shapes} ; {defeat_text(changed)}"), ("InvalidPaper(due, -1)",))
                else:
                    self.assertEqual(answer, f"fits {','.join(map(str, told))}")
                    self.assertTrue(all(figure.isdigit() for figure in answer[5:].split(",")))
        self.assertGreater(won, 8)

    def pushed(self, keeper, number, queue, ranks):
        """The answer of a push."""
        try:
            return way_text(*keeper.push(number, queue, ranks))
        except errors.NotUsable as error:
            return show_value(error)

    def test_a_keeper(self):
        chance = random.Random(423)
        refused = 0
        for plan in sample_plans(24, seed=41, most=4):
            others = [other for other in sample_plans(24, seed=43, most=4) if other.plain_of() == plan.plain_of()] + [Plan((), LONG, (1,))]
            keeper, nodes = PlanKeeper(plan), Nodes(plan.plain_of())
            lines, expected = [f"plan ; {plan_text(plan)}"], [plan_text(plan)]
            for _ in range(25):
                word = chance.choice(["push", "push", "push", "depart", "chip", "lines", "moved"])
                if word == "push":
                    # Now and then a packet that is present, a queue that there is not, or a rank too many.
                    number, queue = chance.randint(0, 9), chance.randrange(len(nodes.leaves) + 1)
                    many = len(nodes.path(min(queue, len(nodes.leaves) - 1))) + chance.choice([0, 0, 0, 0, 1])
                    ranks = tuple(tuple(chance.randint(-3, 3) for _ in range(chance.randint(0, 2))) for _ in range(many))
                    lines.append(f"push ; {number} ; {way_text(queue, ranks)}")
                    expected.append(self.pushed(keeper, number, queue, ranks))
                    refused += expected[-1].startswith("NotUsable")
                elif word == "moved":
                    other = chance.choice(others)
                    lines.append(f"moved ; {plan_text(other)}")
                    expected.append(answered(move_standing, plan, keeper.chip_standing(), other))
                else:
                    lines.append(word)
                    expected.append(answered({"depart": keeper.depart, "chip": keeper.chip_standing, "lines": keeper.plain_standing}[word]))
            self.assertEqual(run_commands("\n".join(lines)), tuple(expected))
        self.assertGreater(refused, 20)

    def run_beside(self, lines, calls):
        """The commands, and what the calls give, each as show_value shows it unless it is a text already."""
        expected = [told if isinstance(told, str) else answered(*told) for told in calls]
        self.assertEqual(run_commands("\n".join(lines)), tuple(expected))

    def test_a_runner(self):
        text = discipline_policy("strict(come strict(due small))")
        line = text.replace("\n", ";")
        facts = [(2, 5, 0, ()), (1, 4, -3, (7,)), (0, 1, 0, ()), (99, 2, 0, ())]
        told = [f"arrive ; {','.join(map(str, fact[:3] + fact[3]))}" for fact in facts]
        policy = read_policy(text)
        lean, melts = lean_policy(policy)
        chip = (PAIRS, ())
        plan = Plan(policy.shape_of(), chip, least_laying(policy.shape_of(), chip, (1, 1, 1))[1])
        lines, calls = [f"policy ; {line}"], [shape_text(policy.shape_of())]
        for run, begins, answer in ((Runner(policy), None, None), (ChipRunner(policy, plan), "carry ; (((o o) (o o)) o)", plan_text(plan)),
                                    (Runner(lean), "lean", show_value(melts)), (ChipRunner(lean, Plan((), LONG, (2,))), "carry ; (((o o)) o)", "o on (((o o)) o) by 2"),
                                    (Runner(lean), "lean", "()")):
            if begins is not None:
                lines.append(begins)
                calls.append(answer)
            for place, fact in enumerate(facts):
                lines += [told[place], "order", "keeps"] + ["next", "order"] * (place & 1)
                for call in (lambda: run.arrive(fact), run.order, run.keeps_now) + (run.depart, run.order) * (place & 1):
                    calls.append(answered(call))
            lines += ["next"] * 3
            calls += [answered(run.depart) for _ in range(3)]
        self.run_beside(lines, calls)

    def test_what_raises_begins_nothing(self):
        text = Q.replace("\n", ";")
        self.assertEqual(run_commands("\n".join([
            f"policy ; {text}", "arrive ; 0,1,4", "policy ; root q", "order", f"policy ; {free_policy(TWO)}".replace("\n", ";"), "order", "arrive ; 0,1,4", "carry ; o", "order",
            "carry ; (o o)", "order", "arrive ; 1,1,4,2", "arrive ; 0,1,4,1", "order"])), (
                "o", "0", "InvalidPolicy(1, form)", "(0)", "(o o)", "()", "0", "NoLaying()", "(0)", "(o o) on (o o) by 0,1", "()", "0", "1", "(1, 0)"))
        self.assertEqual(run_commands("switch ; (o o) ; come(mount a mount b) ; 3\nimages\nswitch ; o ; come(mount a mount b) ; 3\nswitch ; o ; come ; 3\nimages\n"
                                      "switch ; o ; mount a ; 3\nimages"),
                         ("(0, 1)", "(0, 1)", "NoLaying()", "NotUsable(text, -1)", "(0, 1)", "(0)", "(0)"))

    def test_absent(self):
        lines = {"push ; 1 ; 0:1": "keeper", "depart": "keeper", "chip": "keeper", "lines": "keeper", "moved ; o on o by 0": "keeper", "lean": "runner", "carry ; o": "runner",
                 "arrive ; 0,1,1": "runner", "next": "runner", "order": "runner", "keeps": "runner", "mount ; a ; x ; 1 ; lean": "switch", "unmount ; a": "switch",
                 "exchange ; a ; x": "switch", "come ; a ; 0,1,1": "switch", "go": "switch", "moveto ; o": "switch", "rows": "switch", "counts ; a": "switch", "images": "switch",
                 "audit": "switch", "restart": "switch"}
        self.assertEqual(run_commands("\n".join(lines)), ("absent",) * len(lines))
        begun = {"keeper": "plan ; o on o by 0", "runner": f"policy ; {Q}".replace("\n", ";"), "switch": "switch ; o ; mount a ; 3"}
        for kind, first in begun.items():
            told = run_commands("\n".join([first] + list(lines)))[1:]
            for line, answer in zip(lines, told):
                self.assertEqual(answer == "absent", lines[line] != kind, line)

    def test_a_switch(self):
        great = "root r\nclass * r\nat r\n  in\n    rank f0 * f0"
        switch = Switch(PAIRS, "turns:1:2(mount a mount b)", 9)
        lines, calls = ["switch ; ((o o) (o o)) ; turns:1:2(mount a mount b) ; 9"], [show_value(switch.images_now())]

        def add(line, call, *args):
            lines.append(line)
            calls.append(answered(call, *args))

        due = discipline_policy("strict(due small)")
        add("counts ; a", switch.counts_of, "a")
        add(f"mount ; a ; {due} ; 4 ; whole".replace("\n", ";"), switch.mount, "a", due, 4, False)
        add(f"mount ; a ; {due} ; 4 ; lean".replace("\n", ";"), switch.mount, "a", due, 4, True)
        add(f"mount ; b ; {due} ; 6 ; lean".replace("\n", ";"), switch.mount, "b", due, 6, True)
        add(f"mount ; c ; {due} ; 6 ; lean".replace("\n", ";"), switch.mount, "c", due, 6, True)
        add("mount ; b ; x ; 1 ; lean", switch.mount, "b", "x", 1, True)
        add(f"mount ; b ; {due} ; 3 ; lean".replace("\n", ";"), switch.mount, "b", due, 3, True)
        for place, facts in (("a", (0, 1, 5, ())), ("b", (1, 4, 3, ())), ("a", (1, 9, 9, (-4,))), ("b", (0, 2, 2, ())), ("b", (0, 2, 2, ())), ("b", (0, 2, 2, ())), ("c", (0, 1, 1, ()))):
            add(f"come ; {place} ; {','.join(map(str, facts[:3] + facts[3]))}", switch.arrive, place, facts)
        add("rows", switch.order)
        add("images", switch.images_now)
        add("audit", audit_of, switch, switch.chip_standing())
        add("go", switch.depart)
        add("go", switch.depart)
        add("unmount ; b", switch.unmount, "b")
        add(f"exchange ; b ; {great}".replace("\n", ";"), switch.exchange, "b", great)
        add("exchange ; a ; ", switch.exchange, "a", "")
        add("come ; b ; 0,1,0," + str(2 ** 150), switch.arrive, "b", (0, 1, 0, (2 ** 150,)))
        add("moveto ; (o o)", switch.move_to, TWO)
        add("moveto ; (((o o) o) o)", switch.move_to, COMB)
        add("images", switch.images_now)
        lines.append("restart")
        calls.append("none")
        switch = restored(switch.snapshot())
        for line, call, args in (("rows", switch.order, ()), ("counts ; a", switch.counts_of, ("a",)), ("counts ; b", switch.counts_of, ("b",)), ("counts ; d", switch.counts_of, ("d",)),
                                 ("go", switch.depart, ()), ("go", switch.depart, ()), ("go", switch.depart, ()), ("go", switch.depart, ()), ("unmount ; b", switch.unmount, ("b",)),
                                 ("audit", lambda: audit_of(switch, switch.chip_standing()), ()), ("counts ; b", switch.counts_of, ("b",))):
            add(line, call, *args)
        self.run_beside(lines, calls)
        for told in ("none", "NotUsable(place, -1)", "NotUsable(text, -1)", "Taken(a)", "TooLittle(5)", "Busy(b)", "TooGreat(b-r)", "FullRoom(b)", "NoLaying()", "Vacant(b)", "(b, 1)"):
            self.assertIn(told, calls)

    def test_two_of_one_word(self):
        self.assertEqual(run_commands("plan ; o on o by 0\npush ; 1 ; 0:1\nplan ; o on (o o) by 1\npush ; 1 ; 0:1\ndepart\ndepart\nplan ; o on o by 0\nlines\nlines"),
                         ("o on o by 0", "0:1", "o on (o o) by 1", "1:-/1", "1", "none", "o on o by 0", "o | 0=", "o | 0="))

    def test_moved_leaves_the_keeper(self):
        self.assertEqual(run_commands("plan ; o on (o o) by 1\npush ; 5 ; 0:3\nmoved ; o on o by 0\nmoved ; (o o) on (o o) by 0,1\nchip\ndepart"),
                         ("o on (o o) by 1", "1:-/3", "o | 0=3@5", "NotUsable(other, -1)", "(o o) | 0=-@1 | 1= | 2=3@5", "5"))

    def test_the_first_lines_have_the_first_answers(self):
        # [96]
        text = Q.replace("\n", ";")
        lines = [f"policy ; {text}", "arrive ; 0,1,5", "plan ; o on (o o) by 1", "lean", "arrive ; 0,1,3", "push ; 3 ; 0:1", "count ; o ; (o o)", "order", "switch ; o ; mount a ; 2",
                 f"mount ; a ; {text} ; 1 ; lean", "come ; a ; 0,1,1", "restart", "go", "carry ; (o)", "next", "chip"]
        whole = run_commands("\n".join(lines))
        for many in range(len(lines) + 1):
            self.assertEqual(run_commands("\n".join(lines[:many])), whole[:many])
        self.assertEqual(run_commands("\n".join(lines * 2))[len(lines):], whole)

    def test_wrong_parameters(self):
        check_refusals(self, run_commands, {"text": "next"}, {"text": NOT_TEXTS})


if __name__ == "__main__":
    unittest.main()
