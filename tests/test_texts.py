"""[89] to [93], and what [96] says of them: the texts of ranks, ways, standings, plans, tables and defeats."""

import random
import unittest

from nextbough.defeats import lets_defeat, play_foe
from nextbough.defeattexts import defeat_text, read_defeat
from nextbough.plans import Plan
from nextbough.plantexts import plan_text, read_plan
from nextbough.ranktexts import rank_text, read_rank, read_way, way_text
from nextbough.shapetexts import shape_text
from nextbough.standings import Standing
from nextbough.standingtexts import read_standing_text, standing_text
from nextbough.tabletexts import read_table, table_text
from nextbough.whynots import lets_why_not, why_not
from support import (COMB, FLAT, LONG, MOST_WORTH, NOT_NUMBERS, NOT_PLANS, NOT_RANKS, NOT_STANDINGS, NOT_TEXTS, PAIRS, SIX, TWO,
                     check_refusals, fill, longest_beginning, near_texts, raised, random_shape, same_kinds, sample_plans, sample_shapes)
from tries import begins, is_whole

GREATEST = 2 ** 60 - 1
DEFEAT = (((0, ((0,), ()), 0, ((5,),)), (1, ((-2,), ()), 0, ((7,),))), 0, 1, 0)


def some_rank(chance):
    return tuple(chance.choice([0, 1, -1, 10, chance.randint(-99, 99), MOST_WORTH, -MOST_WORTH]) for _ in range(chance.choice([0, 1, 1, 2, 3, 8])))


def some_number(chance):
    return chance.choice([0, 1, 9, 10, chance.randint(0, 999), GREATEST])


def some_way(chance):
    return (some_number(chance), tuple(some_rank(chance) for _ in range(chance.randint(1, 4))))


class ReadersTest(unittest.TestCase):
    """What all of them share."""

    def check_near(self, kind, read, text, chance, signs, many, known=lambda near: None):
        """Texts cut at each place, or with a sign more or less, are refused where the words say so."""
        for near in near_texts(chance, text, signs, many):
            if is_whole(near, kind):
                told = raised(read, near)
                self.assertIn(told, (None, known(near)), near)
            else:
                at = longest_beginning(near, lambda begun: begins(begun, kind))
                self.assertEqual(raised(read, near), ("InvalidText", at), near)

    def check_cut(self, kind, read, text):
        """If a beginning of a right text is refused, at is its length."""
        for at in range(len(text)):
            told = raised(read, text[:at])
            if told is not None:
                self.assertEqual(told, ("InvalidText", at), text[:at])
            else:
                self.assertTrue(is_whole(text[:at], kind))

    def test_texts_of_other_kinds(self):
        for read in (read_rank, read_way, read_standing_text, read_plan, read_table, read_defeat):
            check_refusals(self, read, {"text": "-"}, {"text": NOT_TEXTS})


class RankTextTest(ReadersTest):
    def test_examples(self):
        self.assertEqual((rank_text((4, -1)), read_rank("-"), way_text(2, ((0,), (), (7, 1)))), ("4,-1", (), "2:0/-/7,1"))
        for text, at in {"": 0, "-0": 1, "01": 1, "-,1": 1, "4,": 2}.items():
            self.assertEqual(raised(read_rank, text), ("InvalidText", at), text)

    def test_there_and_back(self):
        chance = random.Random(401)
        for _ in range(300):
            rank, way = some_rank(chance), some_way(chance)
            text = rank_text(rank=rank)
            self.assertEqual(text, ",".join(map(str, rank)) or "-")
            self.assertTrue(same_kinds(read_rank(text=text), rank))
            text = way_text(queue=way[0], ranks=way[1])
            self.assertEqual(text, f"{way[0]}:" + "/".join(",".join(map(str, held)) or "-" for held in way[1]))
            self.assertTrue(same_kinds(read_way(text=text), way))

    def test_eight_integers(self):
        self.assertEqual(read_rank("1,2,3,4,5,6,7,8"), (1, 2, 3, 4, 5, 6, 7, 8))
        self.assertEqual(raised(read_rank, "1,2,3,4,5,6,7,8,9"), ("InvalidText", 15))
        self.assertEqual(raised(read_rank, "1,2,3,4,5,6,7,8,"), ("InvalidText", 15))
        self.assertEqual(raised(read_way, "0:1,2,3,4,5,6,7,8,9/-"), ("InvalidText", 17))

    def test_integers_at_their_bounds(self):
        self.assertEqual(read_rank(str(2 ** 200 - 1)), (2 ** 200 - 1,))
        self.assertEqual(read_rank(str(1 - 2 ** 200)), (1 - 2 ** 200,))
        for number in (2 ** 200, 2 ** 200 + 7, 10 ** 61 - 1):
            self.assertEqual(raised(read_rank, str(number)), ("InvalidText", 60))
            self.assertEqual(raised(read_rank, str(-number)), ("InvalidText", 61))
        self.assertEqual(read_rank("9" * 60), (10 ** 60 - 1,))
        self.assertEqual(raised(read_rank, "9" * 61), ("InvalidText", 60))
        self.assertEqual(read_way(f"{GREATEST}:-"), (GREATEST, ((),)))
        self.assertEqual(raised(read_way, f"{GREATEST + 1}:-"), ("InvalidText", 18))
        self.assertEqual(raised(read_way, "9" * 19), ("InvalidText", 18))

    def test_named_places(self):
        for text, at in {"--": 1, "-1,-": 4, "-1,-0": 4, "1,,2": 2, "1 ": 1, "+1": 0, "1,-2-": 4, "1/2": 1, "a": 0, "-a": 1, "1,a": 2, "00": 1, "-01": 1,
                         "1,00": 3, "-1-": 2, "1\n": 1}.items():
            self.assertEqual(raised(read_rank, text), ("InvalidText", at), text)
        for text, at in {"": 0, "1": 1, "1:": 2, "-1:0": 0, "01:0": 1, "1:/": 2, "1:0/": 4, "1:-/-/": 6, "1:--": 3, "1:-,1": 3, "1:0/0:": 5, "1 :0": 1, "1:-0": 3,
                         "1:-1": None, "1:-/-9": None, "0:0>": 3}.items():
            self.assertEqual(raised(read_way, text), None if at is None else ("InvalidText", at), text)

    def test_near_texts(self):
        chance = random.Random(402)
        for _ in range(40):
            rank, way = tuple(part % 1000 - 500 for part in some_rank(chance)), some_way(chance)
            self.check_near("rank", read_rank, rank_text(rank), chance, "0129-,/:", 15)
            self.check_near("way", read_way, way_text(way[0] % 99, tuple(rank[:2] for _ in way[1])), chance, "019-,/:", 15)
            self.check_cut("way", read_way, way_text(*way))

    def test_wrong_parameters(self):
        check_refusals(self, rank_text, {"rank": (1,)}, {"rank": NOT_RANKS})
        ranks = [None, True, 0, "", [], (), [(1,)], (1,), (None,), ((1,), None)] + [((0,), bad) for bad in NOT_RANKS]
        check_refusals(self, way_text, {"queue": 0, "ranks": ((1,), ())}, {"queue": NOT_NUMBERS + [2 ** 60], "ranks": ranks})
        self.assertEqual(way_text(GREATEST, ((),)), f"{GREATEST}:-")


class StandingTextTest(ReadersTest):
    def test_examples(self):
        held = Standing(TWO)
        held.push(8, 1, ((4,), ()))
        self.assertEqual(standing_text(held), "(o o) | 0=4@1 | 1= | 2=-@8")
        self.assertEqual(raised(read_standing_text, "o | 0=3@1;2@4"), ("InvalidText", 13))

    def test_there_and_back(self):
        chance = random.Random(403)
        for form in sample_shapes(60, queues=9):
            held = fill(Standing(form), chance, chance.choice([0, 1, 5, 20]))
            text = standing_text(standing=held)
            parts = [shape_text(form)]
            for node, line in enumerate(held.all_lines()):
                parts.append(f"{node}=" + ";".join((",".join(map(str, rank)) or "-") + f"@{item}" for rank, item in line))
            self.assertEqual(text, " | ".join(parts))
            back = read_standing_text(text=text)
            self.assertTrue(back.same_as(held))
            self.assertEqual((back.order(), back.present()), (held.order(), held.present()))
            back.depart()
            self.assertEqual(standing_text(held), text)

    def test_of_the_form_but_no_standing(self):
        for text in ("o | 0=3@1;2@4", "o | 0=3@1;4@1", "(o) | 0=0@1 | 1=0@5", "(o) | 0=0@0 | 1=", "(o) | 0= | 1=0@5", "(o o) | 0=0@0;0@1 | 1=0@5 | 2=0@5",
                     "(o o) | 0=0@2 | 1=0@5 | 2=", "(o o) | 0=-@0;0@0 | 1=0@5;-@6 | 2=", "(o o) | 0=0@0 | 1= | 2=0@5", f"(o) | 0=0@{GREATEST} | 1=0@5"):
            self.assertTrue(is_whole(text, "standing"), text)
            self.assertEqual(raised(read_standing_text, text), ("InvalidText", len(text)), text)
        self.assertEqual(read_standing_text(f"o | 0=-@{GREATEST}").present(), (GREATEST,))

    def test_named_places(self):
        rows = {"": 0, "x": 0, "o": 1, "o |": 3, "o | ": 4, "o | 1": 4, "o | 00": 5, "o | 0=,": 6, "o | 0=-@": 8, "o | 0=-@-1": 8, "o | 0=-@01": 9, "o | 0=-@1;": 10,
                "o | 0=-@1; ": 10, "o | 0=1": 7, "o | 0=1,": 8, "o | 0= ": 6, "o | 0=-@1 ": 9, "o | 0= | 1=": 6, "(o | 0=": 3, "(o o": 4, "(o)": 3, "(o) | 0=": 8,
                "(o) | 0= |": 10, "(o) | 0= | 2": 11, "(o) | 0= | 1": 12, "(o) | 0=x": 8, "(o) | 0=-x": 9, "((o) | 0=": 5, "(o o o o o o o) | ": 12, "()": 1,
                "o | 0=1,2,3,4,5,6,7,8,9@1": 21, f"o | 0=-@{2 ** 60}": 26, ")": 0, "o)": 1, "o  | 0=": 2, "(o)) | 0": 3, "o | 0=-@1;;": 10, "o | 0=-1@1@": 10}
        for text, at in rows.items():
            self.assertEqual(raised(read_standing_text, text), ("InvalidText", at), text)

    def test_near_texts(self):
        chance = random.Random(404)
        for _ in range(14):
            form = random_shape(chance, chance.randint(1, 3), False, 2)
            held = fill(Standing(form), chance, 3)
            for near in (standing_text(held), standing_text(Standing(form))):
                self.check_near("standing", read_standing_text, near, chance, "o() |=@;-,019", 12)
            self.check_cut("standing", read_standing_text, standing_text(held))

    def check_near(self, kind, read, text, chance, signs, many, known=None):
        # What is of the form is a standing, or it is refused at its end.
        super().check_near(kind, read, text, chance, signs, many, lambda near: ("InvalidText", len(near)))

    def test_a_long_text(self):
        held = Standing(SIX)
        for number in range(400):
            held.push(number, number % 6, ((number,), (-number,)))
        self.assertTrue(read_standing_text(standing_text(held)).same_as(held))

    def test_wrong_parameters(self):
        check_refusals(self, standing_text, {"standing": Standing(TWO)}, {"standing": NOT_STANDINGS})


class PlanTextTest(ReadersTest):
    def test_examples(self):
        self.assertEqual(read_plan("(o o) on (((o o)) o) by 1,0").images_of(), (1, 0))
        self.assertEqual(plan_text(Plan(TWO, LONG, (1, 0))), "(o o) on (((o o)) o) by 1,0")

    def test_there_and_back(self):
        for plan in sample_plans(60, seed=31):
            text = plan_text(plan=plan)
            self.assertEqual(text, f"{shape_text(plan.plain_of())} on {shape_text(plan.chip_of())} by {','.join(map(str, plan.images_of()))}")
            back = read_plan(text=text)
            self.assertEqual((back.plain_of(), back.chip_of(), back.images_of()), (plan.plain_of(), plan.chip_of(), plan.images_of()))
            self.assertEqual(plan_text(back), text)

    def test_of_the_form_but_no_plan(self):
        for text in ("o on o by 1", "o on o by 0,0", "(o o) on o by 0,0", "(o o) on (o o) by 1,1", "(o) on o by 0", "((o o) (o o)) on (((o o) o) o) by 0,1,2,3",
                     "(o o) on (o o) by 0", f"o on o by {GREATEST}", "(o o) on (o o) by 0,2"):
            self.assertTrue(is_whole(text, "plan"), text)
            self.assertEqual(raised(read_plan, text), ("InvalidText", len(text)), text)

    def test_named_places(self):
        rows = {"": 0, "o": 1, "o on": 4, "o on ": 5, "o on o": 6, "o on o by": 9, "o on o by ": 10, "o on o by 0,": 12, "o on o by 0,,": 12, "o on o by 00": 11,
                "o on o by -1": 10, "o on o by 0 ": 11, "o on o on": 7, "o by": 2, "(o o on": 6, "(o o) on (o o by": 14, f"o on o by {2 ** 60}": 28, "o on x": 5, "x": 0}
        for text, at in rows.items():
            self.assertEqual(raised(read_plan, text), ("InvalidText", at), text)

    def test_near_texts(self):
        chance = random.Random(405)
        for plan in sample_plans(24, seed=37, most=3, more=2):
            self.check_near("plan", read_plan, plan_text(plan), chance, "o() onby,0129", 12, lambda near: ("InvalidText", len(near)))
            self.check_cut("plan", lambda text: raised(read_plan, text) == ("InvalidText", len(text)) and is_whole(text, "plan") or read_plan(text), plan_text(plan))

    def test_wrong_parameters(self):
        check_refusals(self, plan_text, {"plan": Plan(TWO, LONG, (1, 0))}, {"plan": NOT_PLANS})


class TableTextTest(ReadersTest):
    def test_examples(self):
        self.assertEqual(read_table("1.0:3 0.12:1,2"), ((1, 0, (3,)), (0, 12, (1, 2))))
        self.assertEqual(table_text(((1, 0, (3,)), (0, 12, (1, 2)))), "1.0:3 0.12:1,2")

    def test_there_and_back(self):
        chance = random.Random(406)
        for _ in range(150):
            table = tuple((some_number(chance), some_number(chance), tuple(some_number(chance) for _ in range(chance.randint(1, 4))))
                          for _ in range(chance.randint(1, 5)))
            text = table_text(table=table)
            self.assertEqual(text, " ".join(f"{fork}.{node}:{','.join(map(str, masks))}" for fork, node, masks in table))
            self.assertTrue(same_kinds(read_table(text=text), table))
        for plain, chip in ((PAIRS, COMB), (PAIRS, FLAT), (TWO, ()), (SIX, FLAT)):
            self.assertEqual(lets_why_not(plain, chip, read_table(table_text(why_not(plain, chip)))), len(why_not(plain, chip)))

    def test_named_places(self):
        rows = {"": 0, "1": 1, "1.": 2, "1.0": 3, "1.0:": 4, "1.0:3,": 6, "1.0:3 ": 6, "1.0:3  ": 6, "01.": 1, "-": 0, "1.0:3.": 5, "1:0": 1, "1.0:-1": 4, "1.0:3 1": 7,
                f"{2 ** 60}.0:1": 18, f"0.0:{2 ** 60}": 22, "1.0:3\n": 5, "1.0:00": 5, " 1.0:3": 0}
        for text, at in rows.items():
            self.assertEqual(raised(read_table, text), ("InvalidText", at), text)

    def test_near_texts(self):
        chance = random.Random(407)
        for _ in range(25):
            table = tuple((chance.randint(0, 12), chance.randint(0, 9), tuple(chance.randint(0, 30) for _ in range(chance.randint(1, 3))))
                          for _ in range(chance.randint(1, 3)))
            self.check_near("table", read_table, table_text(table), chance, "0129.:, -", 15)
            self.check_cut("table", read_table, table_text(table))

    def test_wrong_parameters(self):
        row = (1, 0, (3,))
        bad = [None, True, 0, "", [], (), [row], row, (None,), (list(row),), (row[:2],), (row + (0,),), ((True, 0, (3,)),), ((1, -1, (3,)),), ((1, 0, ()),), ((1, 0, [3]),),
               ((1, 0, 3),), ((1, 0, (True,)),), ((1, 0, (3, None)),), ((1, 0, (-3,)),), ((2 ** 60, 0, (3,)),), ((0, 2 ** 60, (3,)),), ((0, 0, (2 ** 60,)),), (row, None)]
        check_refusals(self, table_text, {"table": (row,)}, {"table": bad})


class DefeatTextTest(ReadersTest):
    def test_example(self):
        self.assertEqual(defeat_text(DEFEAT), "0:0/->0:5 1:-2/->0:7 at 0 due 1 shown 0")
        self.assertTrue(same_kinds(read_defeat("0:0/->0:5 1:-2/->0:7 at 0 due 1 shown 0"), DEFEAT))

    def test_there_and_back(self):
        chance = random.Random(408)
        for _ in range(120):
            answers = tuple(some_way(chance) + some_way(chance) for _ in range(chance.randint(1, 4)))
            defeat = (answers, some_number(chance), some_number(chance), some_number(chance))
            text = defeat_text(defeat=defeat)
            rows = " ".join(f"{way_text(*row[:2])}>{way_text(*row[2:])}" for row in answers)
            self.assertEqual(text, f"{rows} at {defeat[1]} due {defeat[2]} shown {defeat[3]}")
            self.assertTrue(same_kinds(read_defeat(text=text), defeat))

    def test_defeats_of_the_foe(self):
        for kind in ("any", "own", "new", "old"):
            word, defeat = play_foe(PAIRS, COMB, kind, (0, 3))
            self.assertEqual(word, "won")
            self.assertEqual(lets_defeat(PAIRS, COMB, read_defeat(defeat_text(defeat))), defeat[1])

    def test_named_places(self):
        good = "0:0/->0:5 1:-2/->0:7 at 0 due 1 shown 0"
        rows = {"": 0, "0:0": 3, "0:0>": 4, "0:0>0": 5, "0:0>0:": 6, "0:0>0:5": 7, "0:0>0:5 ": 8, "0:0>0:5 a": 9, "0:0>0:5 at": 10, "0:0>0:5 x": 8, "0:0>0:5 ax": 9, "0:0>0:5 at ": 11,
                "0:0>0:5 at -": 11, "0:0>0:5 at 00": 12, "0:0>0:5 at 0 d": 14, "0:0>0:5 at 0 shown": 13, "0:0 at": 3, "0:0>0:5>": 7, good + " ": 39, good + "0": 39, good + "1": 39,
                good.replace("due 1", f"due {2 ** 60}"): 48, "at 0": 0, "0:0>0:5 at 0 due 1 shown": 24, good.replace("shown 0", "shown 10") + " at": 40}
        for text, at in rows.items():
            self.assertEqual(raised(read_defeat, text), ("InvalidText", at), text)

    def test_near_texts(self):
        chance = random.Random(409)
        for _ in range(16):
            answers = tuple((chance.randint(0, 9), tuple(some_rank(chance)[:1] for _ in range(2)), chance.randint(0, 9), ((chance.randint(-9, 9),),))
                            for _ in range(chance.randint(1, 3)))
            text = defeat_text((answers, chance.randint(0, 9), chance.randint(0, 9), chance.randint(0, 12)))
            self.check_near("defeat", read_defeat, text, chance, "019:/->, atdueshown", 15)
            self.check_cut("defeat", read_defeat, text)

    def test_wrong_parameters(self):
        answer = DEFEAT[0][0]
        bad = [None, True, 0, "", [], (), list(DEFEAT), DEFEAT[:3], DEFEAT + (0,), ((),) + DEFEAT[1:], (list(DEFEAT[0]),) + DEFEAT[1:], ((None,),) + DEFEAT[1:],
               ((answer[:3],),) + DEFEAT[1:], ((list(answer),),) + DEFEAT[1:], (((-1,) + answer[1:],),) + DEFEAT[1:], (((True,) + answer[1:],),) + DEFEAT[1:],
               (((0, (), 0, ((5,),)),),) + DEFEAT[1:], (((0, ((0,),), 0, ()),),) + DEFEAT[1:], (((0, ((0,),), 0, (5,)),),) + DEFEAT[1:],
               (((0, ((0,),), 2 ** 60, ((5,),)),),) + DEFEAT[1:], (((0, [(0,)], 0, ((5,),)),),) + DEFEAT[1:]]
        bad += [DEFEAT[:place] + (value,) + DEFEAT[place + 1:] for place in (1, 2, 3) for value in (None, True, -1, "0", 2 ** 60)]
        check_refusals(self, defeat_text, {"defeat": DEFEAT}, {"defeat": bad})


if __name__ == "__main__":
    unittest.main()
