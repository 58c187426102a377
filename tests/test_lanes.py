"""[68] to [71] and (G10): ranks that can come, lines in lanes, policies on them, rows that need many lanes."""

import itertools
import random
import unittest

from nextbough.disciplines import discipline_policy
from nextbough.exprtexts import read_expr
from nextbough.freepolicies import free_policy
from nextbough.lanelines import LaneLine, LaneRunner
from nextbough.lanerows import lane_row, least_lanes
from nextbough.plans import Plan
from nextbough.policies import Policy
from nextbough.policytexts import read_policy
from nextbough.ranksets import node_lanes, rank_sets
from nextbough.runners import Runner
from nextbough.writing import write_standing
from support import (COMB, FLAT, LONG, MOST_WORTH, NOT_COUNTS, NOT_FACTS, NOT_NUMBERS, NOT_PLANS, NOT_POLICIES, NOT_RANKS,
                     PAIRS, THREE, TWO, Nodes, check_refusals, raised, random_ranks, run_alike, same_kinds, sample_plans,
                     tree_nodes)

FACTS = (0, 5, 0, ())


def at_queue(*lines):
    """A policy of one queue with these lines of its block."""
    return read_policy("\n".join(("root q", "class * q", "at q") + lines))


# ---- the values by the words


def words_values(tree, lets):
    word = tree[0]
    if word == "int":
        found = {tree[1]}
    elif word == "name":
        return lets.get(tree[1])
    else:
        parts = [words_values(part, lets) for part in tree[1:] if isinstance(part, tuple)]
        if word == "if":
            if parts[1] is None or parts[2] is None:
                return None
            found = parts[1] | parts[2]
        elif word in ("less", "same") and None in parts:
            found = {0, 1}
        elif word == "rest" and parts[0] is None:
            if tree[2] > 64:
                return None
            found = set(range(tree[2]))
        elif None in parts:
            return None
        else:
            found = {joined(word, row + tree[2:] * (word in ("part", "rest"))) for row in itertools.product(*parts)}
    found = {worth for worth in found if abs(worth) <= MOST_WORTH}
    return found if len(found) <= 64 else None


def joined(word, row):
    one, other = row
    return {"+": one + other, "-": one - other, "*": one * other, "max": max(one, other), "min": min(one, other),
            "less": int(one < other), "same": int(one == other), "part": one // other if word == "part" else 0,
            "rest": one % other if word == "rest" else 0}[word]


def let_in(tree, lets):
    if tree[0] == "name":
        return lets.get(tree[1], tree)
    return tuple(let_in(part, lets) if isinstance(part, tuple) else part for part in tree)


def words_ranks(steps):
    lets, values = {}, {}
    for step in steps[:-1]:
        if step[0] == "let":
            values[step[1]] = words_values(step[2], values)
            lets[step[1]] = let_in(step[2], lets)
    sets = [words_values(tree, values) for tree in steps[-1][1]]
    if None in sets or tree_nodes([let_in(tree, lets) for tree in steps[-1][1]]) > 500:
        return None
    found = set(itertools.product(*sets))
    return found if len(found) <= 64 else None


def all_ranks(rows):
    """The ranks of some sections together, ascending, or None."""
    found = set()
    for steps in rows:
        ranks = words_ranks(steps)
        if ranks is None:
            return None
        found |= ranks
    return tuple(sorted(found)) if len(found) <= 64 else None


EXPRS = ["3", "0 - 4", "less(size, 3)", "rest(f0, 4)", "rest(stamp, 3) * 2", "if(f0, 5, 6)", "max(rest(size, 5), 2)",
         "same(class, 2) + 1", "part(rest(f1, 9), 4)", "min(2, less(f0, f1))", "if(less(f0, 2), rest(f1, 3), 7 - 9)",
         "rest(rest(f0, 3) * 5 - 4, 4)", "number", "f0", "part(size, 2)", "rest(f0, 64)", "rest(f0, 65)",
         "rest(f0, 9) * 9 + rest(f1, 8)", "rest(f0, 8) * 8 + rest(f1, 8)"]


def laned_parts(chance, form, every=12):
    """Parts of a policy whose ranks are mostly few; at some nodes of some policies they are many."""
    nodes = Nodes(form)
    names = tuple(f"n{node}" for node in range(len(nodes.shapes)))
    pool = EXPRS[:every]
    routes = []
    for number in sorted(chance.sample(range(9), chance.randint(1, 5))) + ["*"]:
        queue = chance.randrange(len(nodes.leaves))
        sections = []
        for node in nodes.path(queue):
            trees = tuple(read_expr(chance.choice(pool)) for _ in range(chance.choice([1, 1, 2])))
            steps = (("set", "v", ("+", ("name", "v"), ("name", "size"))), ("rank", trees))
            if chance.random() < 0.4:
                steps = (("let", "z", trees[0]), ("rank", (read_expr(chance.choice(["z", "z * 2", "max(z, 1)", "same(z, z)"])),)))
            sections.append((names[node], steps))
        routes.append((number, queue, tuple(sections)))
    outs = tuple((node, name, (), (("set", "v", ("name", "rank")),)) for node, name in enumerate(names) if chance.random() < 0.4)
    return (form, names, tuple((name, (("v", 0),)) for name in names), tuple(routes), outs)


class RankSetsTest(unittest.TestCase):
    def check_values(self, lines, expected):
        self.assertEqual(rank_sets(at_queue("  in", *[f"    {line}" for line in lines])), (expected,))

    def test_each_kind_of_expression(self):
        rows = {
            "7": ((7,),), "size": None, "2 + 3": ((5,),), "2 - 3": ((-1,),), "2 * 3": ((6,),), "size + 1": None, "1 - f0": None,
            "0 * f0": None, "max(1, f0)": None, "min(1, 2)": ((1,),), "max(1, 2)": ((2,),), "less(1, 2)": ((1,),), "less(2, 1)": ((0,),),
            "less(f0, 1)": ((0,), (1,)), "less(1, f0)": ((0,), (1,)), "same(f0, f0)": ((0,), (1,)), "same(3, 3)": ((1,),),
            "if(1, 4, 3)": ((3,), (4,)), "if(f0, 4, 4)": ((4,),), "if(0, f0, 1)": None, "if(1, 1, f0)": None,
            "part(7, 2)": ((3,),), "part(f0, 1000)": None, "part(0 - 7, 2)": ((-4,),), "rest(0 - 7, 2)": ((1,),),
            "rest(f0, 3)": ((0,), (1,), (2,)), "rest(f0, 1)": ((0,),), "rest(100, 90)": ((10,),),
            "rest(f0, 2), rest(f1, 2)": ((0, 0), (0, 1), (1, 0), (1, 1)), "rest(f0, 2), size": None,
            "less(rest(f0, 2), rest(f1, 2))": ((0,), (1,)), "rest(f0, 3) - rest(f0, 3)": ((-2,), (-1,), (0,), (1,), (2,)),
        }
        for text, expected in rows.items():
            self.check_values([f"rank {text}"], expected)

    def test_bounds(self):
        self.check_values(["rank rest(f0, 64)"], tuple((k,) for k in range(64)))
        self.check_values(["rank rest(f0, 65)"], None)
        self.check_values(["rank less(rest(f0, 64), 0)"], ((0,),))
        self.check_values(["rank less(rest(f0, 65), 0)"], ((0,), (1,)))
        self.check_values(["rank part(rest(f0, 64), 1) + 1"], tuple((k,) for k in range(1, 65)))
        # More than 64 values within an expression become None, also where fewer would be left.
        self.check_values(["rank part(rest(f0, 64) + rest(f1, 2), 2)"], None)
        self.check_values(["rank rest(rest(f0, 64) + rest(f1, 2), 2)"], ((0,), (1,)))
        self.check_values(["rank less(rest(f0, 64) + rest(f1, 2), 0)"], ((0,), (1,)))
        self.check_values(["rank rest(f0, 8), rest(f1, 8)"], tuple((a, b) for a in range(8) for b in range(8)))
        self.check_values(["rank rest(f0, 13), rest(f1, 5)"], None)
        self.check_values(["rank if(f0, rest(f1, 33), 0 - rest(f1, 32))"], tuple((k,) for k in range(-31, 33)))
        self.check_values(["rank if(f0, rest(f1, 33), 0 - rest(f1, 33))"], None)

    def great(self, text, times):
        """Lets that make a 54-figure integer and an expression of it that is no worth where times is 2."""
        return ["let a 999999999999999999 * 999999999999999999 * 999999999999999999", f"let b a * {text}"] + (["let c a * b"] if times > 1 else ["let c b"])

    def test_what_is_no_worth_is_left_out(self):
        self.check_values(self.great("1", 2) + ["rank c"], ())
        self.check_values(self.great("1", 1) + ["rank same(c, 1)"], ((0,),))
        self.check_values(self.great("rest(f0, 2)", 2) + ["rank c"], ((0,),))
        self.check_values(self.great("1", 2) + ["rank c + 1"], ())
        self.check_values(self.great("1", 2) + ["rank c + f0"], None)
        self.check_values(self.great("1", 2) + ["rank less(c, 1)"], ())
        self.check_values(self.great("1", 2) + ["rank less(c, f0)"], ((0,), (1,)))
        self.check_values(self.great("1", 2) + ["rank if(c, 1, 2)"], ((1,), (2,)))
        self.check_values(self.great("1", 2) + ["rank if(0, c, 2)"], ((2,),))
        self.check_values(self.great("1", 2) + ["rank if(0, c, f0)"], None)
        self.check_values(self.great("1", 2) + ["rank c, rest(f0, 3)"], ())
        self.check_values(self.great("1", 2) + ["rank c, f0"], None)
        self.check_values(self.great("1", 2) + ["rank c, rest(f0, 60), rest(f0, 60)"], ())
        self.check_values(self.great("1", 2) + ["rank rest(c, 3)"], ())

    def test_lets(self):
        self.check_values(["let a rest(f0, 2)", "let b a + a", "rank b * 10 + a"], tuple((k,) for k in (0, 1, 10, 11, 20, 21)))
        self.check_values(["let a f0", "let b less(a, 1)", "rank b"], ((0,), (1,)))
        self.check_values(["let a f0", "rank 1"], ((1,),))
        many = ["let a0 1"] + [f"let a{k} a{k - 1} + a{k - 1}" for k in range(1, 9)]
        self.check_values(many[:8] + ["rank a7 + a7 - a7"], None)
        self.check_values(many[:8] + ["rank a7"], ((128,),))
        self.check_values(many[:9] + ["rank a8"], None)
        # A let that is not read may have any size.
        self.check_values(many[:9] + ["let b a8 + a8", "rank a7"], ((128,),))

    def test_keeps_have_no_values(self):
        self.assertEqual(rank_sets(at_queue("  keep v 1", "  in", "    set v v + 1", "    rank v")), (None,))
        self.assertEqual(rank_sets(at_queue("  keep v 1", "  in", "    set v v + 1", "    rank rest(v, 2)")), (((0,), (1,)),))

    def test_several_sections(self):
        text = discipline_policy("strict(come strict(small free) due)").replace("rank stamp", "rank rest(stamp, 64)")
        policy = read_policy(text.replace("rank size", "rank less(size, 5)"))
        self.assertEqual(rank_sets(policy), (((0,), (1,), (2,)), None, ((0,), (1,)), ((0,), (1,)), None, tuple((k,) for k in range(64))))
        parts = policy.parts()
        more = parts[3][:3] + ((3, 3, (parts[3][3][2][0], ("q3", (("rank", (("int", 64),)),)))),) + parts[3][4:]
        self.assertIsNone(rank_sets(Policy(parts[:3] + (more, ())))[5])
        same = parts[3][:3] + ((3, 3, (parts[3][3][2][0], ("q3", (("rank", (("int", 63),)),)))),) + parts[3][4:]
        self.assertEqual(len(rank_sets(Policy(parts[:3] + (same, ())))[5]), 64)
        # No route, no ranks.
        alone = Policy(parts[:3] + ((("*",) + parts[3][0][1:],), ()))
        self.assertEqual(rank_sets(alone), (((0,),), None, (), (), (), ()))

    def test_by_the_words(self):
        chance = random.Random(231)
        nothing = 0
        for plan in sample_plans(80, seed=23, most=6):
            parts = laned_parts(chance, plan.plain_of(), chance.choice([12, len(EXPRS)]))
            policy, nodes, board = Policy(parts), Nodes(parts[0]), Nodes(plan.chip_of())
            expected = []
            for node in range(len(nodes.shapes)):
                rows = [row[nodes.path(queue).index(node)][1] for _, queue, row in parts[3] if node in nodes.path(queue)]
                expected.append(all_ranks(rows))
            nothing += None in expected
            self.assertTrue(same_kinds(rank_sets(policy=policy), tuple(expected)))
            lanes = []
            for node in range(len(board.shapes)):
                owner = plan.owner_at(node)
                rows = [row[nodes.path(queue).index(owner)][1] for _, queue, row in parts[3]
                        if owner not in (None, -1) and plan.image_of(queue) in board.held[node]]
                ranks = all_ranks(rows)
                lanes.append(0 if owner is None else 1 if owner == -1 else None if ranks is None else len(ranks))
            self.assertTrue(same_kinds(node_lanes(policy=policy, plan=plan), tuple(lanes)))
        self.assertGreater(nothing, 5)

    def test_lanes_of_an_example(self):
        policy = read_policy(discipline_policy("strict(come small come)").replace("rank size", "rank less(size, 5)"))
        plan = Plan(((), (), ()), (((), ((), ())), ((),)), (0, 2, 3))
        self.assertEqual(node_lanes(policy, plan), (3, 2, None, 1, 0, 2, 1, None))
        self.assertEqual(node_lanes(read_policy(discipline_policy("strict(come small)")), Plan(TWO, LONG, (1, 0))), (1, 1, 2, None, None, 0))

    def test_wrong_parameters(self):
        policy = read_policy(free_policy(TWO))
        check_refusals(self, rank_sets, {"policy": policy}, {"policy": NOT_POLICIES})
        plans = NOT_PLANS + [Plan((), LONG, (0,)), Plan(FLAT, PAIRS, (0, 1, 2, 3)), Plan(THREE, COMB, (0, 1, 2))]
        check_refusals(self, node_lanes, {"policy": policy, "plan": Plan(TWO, LONG, (1, 0))}, {"policy": NOT_POLICIES, "plan": plans})


NOT_RANK_ROWS = [None, True, 0, "", [], [(0,)], (0,), (None,), ((0,), (0,)), ((1,), (0,)), ((0,), ()), ((0,), [1]), ((True,),),
                 ((0,), (2 ** 200,)), ((0, 0), (0,))]


class LaneLineTest(unittest.TestCase):
    def test_lanes(self):
        line = LaneLine(((), (0,), (0, 5)))
        self.assertEqual((line.lanes_now(), line.take()), (((), (), ()), None))
        self.assertIsNone(line.put((0,), 7))
        line.put(rank=(0, 5), item=7)
        line.put((0,), 3)
        line.put((), 2 ** 70)
        self.assertEqual(line.lanes_now(), ((2 ** 70,), (7, 3), (7,)))
        self.assertEqual([line.take() for _ in range(5)], [((), 2 ** 70), ((0,), 7), ((0,), 3), ((0, 5), 7), None])
        self.assertEqual(line.lanes_now(), ((), (), ()))
        self.assertEqual(LaneLine(()).lanes_now(), ())
        self.assertEqual(LaneLine(ranks=((),)).lanes_now(), ((),))

    def test_beside_a_line(self):
        chance = random.Random(232)
        for _ in range(40):
            ranks = tuple(sorted({random_ranks(chance, 1)[0] for _ in range(chance.randint(1, 9))}))
            line, beside = LaneLine(ranks), []
            for item in range(30):
                if chance.random() < 0.4:
                    self.assertEqual(line.take(), beside.pop(0) if beside else None)
                else:
                    rank = chance.choice(ranks)
                    line.put(rank, item)
                    beside.append((rank, item))
                    # Python keeps the sequence of equal ranks.
                    beside.sort(key=lambda entry: entry[0])
                self.assertEqual(line.lanes_now(), tuple(tuple(item for held, item in beside if held == rank) for rank in ranks))

    def test_wrong_parameters(self):
        check_refusals(self, LaneLine, {"ranks": ((0,), (1,))}, {"ranks": NOT_RANK_ROWS})
        line = LaneLine(((0,), (1,)))
        check_refusals(self, line.put, {"rank": (1,), "item": 4}, {"rank": NOT_RANKS + [(), (2,), (0, 0)], "item": NOT_NUMBERS})
        self.assertEqual(line.lanes_now(), ((), ()))
        self.assertEqual(raised(LaneLine(()).put, (), 0), ("NotUsable", "rank", -1))


class LaneRunnerTest(unittest.TestCase):
    def test_beside_the_plain_runner(self):
        chance = random.Random(233)
        ran = refused = 0
        for plan in sample_plans(70, seed=29, most=6):
            policy = Policy(laned_parts(chance, plan.plain_of()))
            lanes = node_lanes(policy, plan)
            if None in lanes:
                continue
            ran += 1
            more = tuple(many + chance.choice([0, 0, 1, 3, 2 ** 80]) for many in lanes)
            plain = Runner(policy)
            runs = [LaneRunner(policy, plan, lanes), LaneRunner(policy=policy, plan=plan, lanes=more)]
            for run in runs:
                refused += run_alike(self, Runner(policy), LaneRunner(policy, plan, lanes), chance, 20)
            for _ in range(30):
                if chance.random() < 0.4:
                    gone = plain.depart()
                    self.assertEqual([run.depart() for run in runs], [gone, gone])
                else:
                    facts = (chance.randint(0, 9), chance.randint(1, 6), chance.randint(-5, 5), tuple(chance.randint(-9, 9) for _ in range(3)))
                    number = plain.arrive(facts)
                    self.assertEqual([run.arrive(facts) for run in runs], [number, number])
                for run in runs:
                    self.assertTrue(run.chip_standing().same_as(write_standing(plan, plain.standing_of_now())))
                    self.assertEqual((run.order(), run.keeps_now(), run.taken()), (plain.order(), plain.keeps_now(), plain.taken()))
            for place, many in enumerate(lanes):
                if many:
                    fewer = lanes[:place] + (many - 1,) + lanes[place + 1:]
                    self.assertEqual(raised(LaneRunner, policy, plan, fewer), ("NotUsable", "lanes", -1))
        self.assertGreater(ran, 40)

    def test_refused_packets(self):
        lines = ["root k", "tree k (a b)", "class 0 a", "class * b", "at k", "  keep v 0", "  in a", "    set v v + f0",
                 "    rank rest(v, 2)", "  in b", "    rank 5", "at a", "  in", "    let z f1 * f1", "    rank same(z, 4)", "at b", "  in", "    rank 0"]
        policy = read_policy("\n".join(lines))
        plan = Plan(TWO, LONG, (1, 0))
        self.assertEqual(node_lanes(policy, plan), (1, 1, 3, 1, 2, 0))
        run = LaneRunner(policy, plan, (1, 1, 3, 1, 2, 0))
        self.assertEqual(run.arrive((0, 1, 0, (1, 2))), 0)
        self.assertEqual(raised(run.arrive, (0, 1, 0, (1, MOST_WORTH))), ("TooGreat", "a"))
        self.assertEqual(raised(run.arrive, (0, 1, 0, (MOST_WORTH, 0))), ("TooGreat", "k"))
        self.assertEqual((run.taken(), run.keeps_now()[0]), (1, ("k", (("v", 1),))))
        self.assertEqual(run.arrive((0, 1, 0, (0, 3))), 1)
        self.assertEqual(run.arrive((7, 1, 0, (0, 3))), 2)
        self.assertEqual(run.chip_standing().all_lines(), (
            (((), 0),) * 3, (((), 0),) * 3, (((0,), 1), ((1,), 1), ((5,), 0)), (((0,), 2),), (((0,), 1), ((1,), 0)), ()))
        self.assertEqual([run.depart() for _ in range(4)], [1, 0, 2, None])

    def test_none_in_a_node_is_refused(self):
        policy = read_policy(discipline_policy("strict(come small)"))
        plan = Plan(TWO, LONG, (1, 0))
        self.assertEqual(raised(LaneRunner, policy, plan, (9,) * 6), ("NotUsable", "lanes", -1))
        policy = read_policy(discipline_policy("strict(come small)").replace("rank number", "rank 1").replace("rank size", "rank rest(size, 64)"))
        self.assertEqual(node_lanes(policy, plan), (1, 1, 2, 64, 1, 0))
        self.assertEqual(LaneRunner(policy, plan, (1, 1, 2, 64, 1, 0)).arrive(FACTS), 0)

    def test_what_is_handed_out_is_new(self):
        policy = read_policy(discipline_policy("strict(come small)").replace("number", "0").replace("size", "1"))
        plan = Plan(TWO, LONG, (1, 0))
        run, beside = [LaneRunner(policy, plan, node_lanes(policy, plan)) for _ in range(2)]
        run.arrive(FACTS)
        run.chip_standing().depart()
        self.assertEqual((run.order(), run.depart(), run.depart(), beside.taken()), ((0,), 0, None, 0))

    def test_wrong_parameters(self):
        policy = read_policy(discipline_policy("strict(come small)").replace("number", "0").replace("size", "1"))
        plan = Plan(TWO, LONG, (1, 0))
        good = node_lanes(policy, plan)
        plans = NOT_PLANS + [Plan((), LONG, (0,)), Plan(FLAT, PAIRS, (0, 1, 2, 3))]
        bad = [None, True, 0, "", [], (), list(good), good[:-1], good + (0,), good[:-1] + (-1,), good[:-1] + (None,), (True,) + good[1:],
               good[:-1] + (False,), good[:2] + (1,) + good[3:], ("1",) + good[1:]]
        check_refusals(self, LaneRunner, {"policy": policy, "plan": plan, "lanes": good},
                       {"policy": NOT_POLICIES, "plan": plans, "lanes": bad})
        run = LaneRunner(policy, plan, good)
        check_refusals(self, run.arrive, {"facts": FACTS}, {"facts": NOT_FACTS})
        self.assertEqual((run.taken(), run.order()), (0, ()))


def serves_in_some_way(row, lanes, due):
    """Whether the entries, put one by one into lanes in some way, can be taken in the sequence due."""
    for seats in itertools.product(range(lanes), repeat=len(row)):
        held = [[item for seat, (_, item) in zip(seats, row) if seat == lane] for lane in range(lanes)]
        for item in due:
            found = [lane for lane in held if lane and lane[0] == item]
            if not found:
                break
            # Items are told apart here, so that there is just one such lane.
            found[0].pop(0)
        else:
            return True
    return False


def shows_in_some_way(row, lanes):
    """Whether the first lane that is not empty can show, behind each put, the item of the least rank."""
    for seats in itertools.product(range(lanes), repeat=len(row)):
        held = [[] for _ in range(lanes)]
        for seat, (_, item) in zip(seats, row):
            held[seat].append(item)
            if [lane[0] for lane in held if lane][0] != item:
                break
        else:
            return True
    return False


class LaneRowTest(unittest.TestCase):
    def test_least_lanes(self):
        for many in (1, 2, 5, 63, 64):
            for children in (1, 2, 3, 6, 63, 64):
                self.assertTrue(same_kinds(least_lanes(kind="queue", many=many, children=children), many))
                self.assertTrue(same_kinds(least_lanes("free", many, children), min(many, children)))
                self.assertTrue(same_kinds(least_lanes("fixed", many, children), 1 if children == 1 else many))

    def test_rows(self):
        self.assertEqual(lane_row("queue", 3, 1), (((2,), 0), ((1,), 1), ((0,), 2)))
        self.assertEqual(lane_row("free", 3, 2), (((1,), 0), ((0,), 1)))
        self.assertEqual(lane_row(kind="fixed", many=4, children=2), (((3,), 0), ((2,), 1), ((1,), 0), ((0,), 1)))
        self.assertEqual((lane_row("fixed", 4, 1), lane_row("queue", 1, 1)), ((((0,), 0),), (((0,), 0),)))
        self.assertEqual(lane_row("fixed", 64, 6)[62:], (((1,), 0), ((0,), 1)))
        self.assertEqual(len(lane_row("queue", 64, 6)), 64)

    def test_fewer_lanes_do_not_serve(self):
        for many in range(1, 6):
            for children in range(1, 6):
                for kind in ("queue", "free"):
                    lanes, row = least_lanes(kind, many, children), lane_row(kind, many, children)
                    due = [item for _, item in sorted(row)]
                    self.assertTrue(serves_in_some_way(row, lanes, due))
                    self.assertFalse(serves_in_some_way(row, lanes - 1, due))
                lanes, row = least_lanes("fixed", many, children), lane_row("fixed", many, children)
                self.assertTrue(shows_in_some_way(row, lanes))
                self.assertFalse(shows_in_some_way(row, lanes - 1))

    def test_as_many_as_children_serve_a_fork(self):
        # (G10): a lane for each child serves, whatever comes, if any lane may be taken from.
        chance = random.Random(234)
        for _ in range(30):
            children = chance.randint(1, 4)
            row = [((chance.randint(0, 5),), chance.randrange(children)) for _ in range(8)]
            due = [item for _, item in sorted(row, key=lambda entry: entry[0])]
            held = {child: [item for _, item in row if item == child] for child in range(children)}
            self.assertEqual([held[item].pop(0) for item in due], due)

    def test_wrong_parameters(self):
        bad = {"kind": [None, True, 0, "", "Queue", "any", ("queue",), ["queue"]], "many": NOT_COUNTS, "children": NOT_COUNTS}
        for call in (least_lanes, lane_row):
            check_refusals(self, call, {"kind": "fixed", "many": 3, "children": 2}, bad)


if __name__ == "__main__":
    unittest.main()
