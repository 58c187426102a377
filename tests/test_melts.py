"""[66], [67] and (G9): melts, beside melts by the words of the document, and melted policies beside the first ones."""

import random
import unittest

from nextbough.disciplines import discipline_policy
from nextbough.exprtexts import read_expr
from nextbough.freepolicies import free_policy
from nextbough.leaning import lean_policy, lets_melts
from nextbough.melts import can_melt, melted
from nextbough.policies import Policy
from nextbough.policytexts import read_policy
from nextbough.runners import Runner
from support import (NOT_NUMBERS, NOT_POLICIES, PAIRS, SIX, TWO, Nodes, check_refusals, deep, raised, random_discipline,
                     random_shape, run_alike, same_kinds, tree_nodes)

KINDS = ("same", "strict", "into")
ZERO, ONE = ("int", 0), ("int", 1)


def ints(*numbers):
    """The step of a rank of these integers."""
    return (("rank", tuple(("int", number) for number in numbers)),)


# ---- melts by the words, by the names of the nodes


def let_in(tree, lets):
    """The tree with the lets put in."""
    if tree[0] == "name":
        return lets.get(tree[1], tree)
    return tuple(let_in(part, lets) if isinstance(part, tuple) else part for part in tree)


def rank_put_in(steps):
    lets = {}
    for step in steps:
        if step[0] == "let":
            lets[step[1]] = let_in(step[2], lets)
    trees = tuple(let_in(tree, lets) for tree in steps[-1][1])
    return trees if tree_nodes(trees) <= 500 else None


def names_read(tree):
    return {tree[1]} if tree[0] == "name" else {name for part in tree[1:] if isinstance(part, tuple) for name in names_read(part)}


def all_lets_read(steps):
    wanted = set().union(*[names_read(tree) for tree in steps[-1][1]])
    for step in reversed(steps[:-1]):
        if step[0] == "let":
            if step[1] not in wanted:
                return False
            wanted |= names_read(step[2])
    return True


def is_echo(keeps, section, other):
    told = rank_put_in(section[1])
    return dict(keeps)[section[0]] == () and told is not None and told == rank_put_in(other[1]) and all_lets_read(section[1])


def bare_row(section):
    if len(section[1]) != 1 or any(tree[0] != "int" for tree in section[1][0][1]):
        return None
    return tuple(tree[1] for tree in section[1][0][1])


def parts_rows(one, other):
    """Whether the trees of two rows are parted."""
    for left, right in zip(one, other):
        if left[0] != "int" or right[0] != "int":
            return False
        if left != right:
            return True
    return False


class Names:
    """A policy's parts by the names of its nodes: kids, sections by class and node, outs by node."""

    def __init__(self, parts):
        form, self.names, self.keeps, routes, outs = parts
        nodes = Nodes(form)
        self.root = self.names[0]
        self.kids = {self.names[n]: [self.names[kid] for kid in kids] for n, kids in enumerate(nodes.kids)}
        self.routes = [(number, self.names[nodes.leaves[queue]], dict(zip([self.names[n] for n in nodes.path(queue)], sections)))
                       for number, queue, sections in routes]
        self.outs = {name: [out[1:] for out in outs if self.names[out[0]] == name] for name in self.names}

    def parts(self):
        names = []

        def walk(name):
            names.append(name)
            return tuple(walk(kid) for kid in self.kids[name])

        form = walk(self.root)
        nodes = Nodes(form)
        queues = [names[node] for node in nodes.leaves]
        routes = []
        for number, name, sections in self.routes:
            queue = queues.index(name)
            routes.append((number, queue, tuple(sections[names[node]] for node in nodes.path(queue))))
        outs = [(node, *out) for node, name in enumerate(names) for out in self.outs[name]]
        return (form, tuple(names), self.keeps, tuple(routes), tuple(outs))

    def through(self, name):
        return [route for route in self.routes if name in route[2]]

    def longest(self, name):
        rows = [len(sections[name][1][-1][1]) for _, _, sections in self.through(name)]
        return max(rows + [len(out[1]) for out in self.outs[name]], default=0)


def ahead_of(row, section):
    return (section[0], section[1][:-1] + (("rank", tuple(("int", k) for k in row) + section[1][-1][1]),))


def melt_by_words(parts, kind, node):
    """The parts behind the melt, or None."""
    if node >= len(parts[1]):
        return None
    held = Names(parts)
    name = held.names[node]
    kids = held.kids[name]
    routes = held.through(name)
    if not kids:
        return None
    if kind == "into":
        return into_by_words(held, name, kids, routes)
    tops = [top for top in held.names if name in held.kids[top]]
    if not tops or not routes or len(held.kids[tops[0]]) - 1 + len(kids) > 6:
        return None
    top = tops[0]
    if kind == "same":
        if held.outs[name] or not all(is_echo(held.keeps, way[name], way[top]) for _, _, way in routes):
            return None
        for _, _, way in routes:
            del way[name]
    else:
        rows = {bare_row(way[top]) for _, _, way in routes}
        row = rows.pop()
        if rows or row is None:
            return None
        told = tuple(("int", k) for k in row)
        if not all(parts_rows(told, way[top][1][-1][1]) for _, _, way in held.through(top) if name not in way):
            return None
        if any(out[1][:len(row)] == row for out in held.outs[top]) or len(row) + held.longest(name) > 8:
            return None
        for _, _, way in routes:
            way[top] = ahead_of(row, way.pop(name))
        held.outs[top] += [(origin, row + prefix, steps) for origin, prefix, steps in held.outs[name]]
    at = held.kids[top].index(name)
    held.kids[top][at:at + 1] = kids
    return held.parts()


def into_by_words(held, name, kids, routes):
    if any(held.kids[kid] for kid in kids):
        return None
    rows = {}
    for _, queue, way in routes:
        rows.setdefault(queue, set()).add(bare_row(way[name]))
    fits = all(len(found) == 1 and None not in found for found in rows.values())
    if fits:
        rows = {queue: found.pop() for queue, found in rows.items()}
        told = {queue: tuple(("int", k) for k in row) for queue, row in rows.items()}
        fits = all(parts_rows(told[a], told[b]) for a in told for b in told if a != b)
        fits = fits and not any(out[1][:len(row)] == row for out in held.outs[name] for row in rows.values())
        fits = fits and all(len(row) + held.longest(queue) <= 8 for queue, row in rows.items())
    if not fits:
        if any(held.outs[kid] for kid in kids):
            return None
        if not all(is_echo(held.keeps, way[queue], way[name]) for _, queue, way in routes):
            return None
    changed = []
    for number, queue, way in held.routes:
        if name in way:
            own = way.pop(queue)
            if fits:
                way[name] = ahead_of(rows[queue], own)
            queue = name
        changed.append((number, queue, way))
    if fits:
        for kid in kids:
            if kid in rows:
                held.outs[name] += [(origin, rows[kid] + prefix, steps) for origin, prefix, steps in held.outs[kid]]
    held.routes = changed
    held.kids[name] = []
    return held.parts()


# ---- policies that often melt


def melting_steps(chance, keeps, pool):
    """Steps of a section: some of a few rows, often told in another way."""
    tree = read_expr(chance.choice(pool))
    pick = chance.random()
    if pick < 0.45:
        return ints(*chance.choice([(0,), (1,), (2,), (0, 1), (1, 0), (1, 1), (1,), (0,) * 7, (3,) * 8]))
    if pick < 0.65:
        return (("rank", (tree,)),)
    if pick < 0.75:
        return (("let", "a", tree), ("rank", (("name", "a"),)))
    if pick < 0.8:
        return (("let", "a", tree), ("let", "b", ("name", "a")), ("rank", (chance.choice([("name", "a"), ("name", "b")]),)))
    if keeps:
        return (("set", keeps[0], ("+", ("name", keeps[0]), ONE)), ("rank", (tree, ("name", keeps[0]))))
    return ints(chance.randint(0, 1)) if pick < 0.9 else (("rank", (ONE, tree)),)


def melting_parts(chance):
    form = random_shape(chance, chance.randint(2, 7), True)
    nodes = Nodes(form)
    many = len(nodes.shapes)
    pool = chance.sample(["number", "size", "stamp + 1", "f0", "f1"], 2)
    stands = [(node, f"m{node}x{k}", chance.random() < 0.3) for node in range(many) for k in range(2)]
    keeps = tuple((origin, (("v", 0),) if held else ()) for _, origin, held in stands)
    plain = {origin: ["v"] if held else [] for _, origin, held in stands}
    by_kid = {}
    routes = []
    for number in sorted(chance.sample(range(9), chance.randint(1, 6))) + ["*"]:
        queue = chance.randrange(len(nodes.leaves))
        path = nodes.path(queue)
        sections = []
        for node, below in zip(path, path[1:] + (None,)):
            origin = chance.choice([name for at, name, _ in stands if at == node])
            steps = melting_steps(chance, plain[origin], pool)
            if sections and not plain[origin] and chance.random() < 0.4:
                steps = tuple(step for step in sections[-1][1] if step[0] != "set")
            if names_read(("if",) + steps[-1][1]) & {"v"}:
                steps = melting_steps(chance, plain[origin], pool) if plain[origin] else NUMBER
            section = (origin, steps)
            if chance.random() < 0.9:
                # Most often all routes through a child have one section.
                section = by_kid.setdefault((node, below), section)
            sections.append(section)
        routes.append((number, queue, tuple(sections)))
    outs = []
    for node in range(many):
        while chance.random() < 0.25:
            origin = chance.choice([name for at, name, _ in stands if at == node])
            steps = (("set", "v", ("+", ("name", "v"), ("name", "rank"))),) if plain[origin] else (("let", "z", ("name", "rank")),)
            outs.append((node, origin, chance.choice([(), (), (0,), (1,), (0, 1), (2,) * 7]), steps))
    return (form, tuple(f"n{node}" for node in range(many)), keeps, tuple(routes), tuple(outs))


def few_facts(chance):
    return (chance.randint(0, 9), chance.randint(1, 4), chance.randint(-2, 2), (chance.randint(0, 2), chance.randint(0, 2)))


def policy_of(form, sections, keeps=(), outs=()):
    """A policy whose class i goes to queue i with these lists of steps; the origins are the names of the nodes."""
    nodes = Nodes(form)
    names = tuple(f"n{node}" for node in range(len(nodes.shapes)))
    held = dict(keeps)
    routes = []
    for queue, row in enumerate(sections):
        told = tuple((names[node], steps) for node, steps in zip(nodes.path(queue), row))
        routes.append((queue if queue + 1 < len(sections) else "*", queue, told))
    return Policy((form, names, tuple((name, held.get(name, ())) for name in names), tuple(routes), outs))


NUMBER = (("rank", (("name", "number"),)),)
STAMP = (("rank", (("name", "stamp"),)),)


class MeltTest(unittest.TestCase):
    def test_by_the_words(self):
        chance = random.Random(221)
        done = {kind: 0 for kind in KINDS}
        for _ in range(700):
            parts = melting_parts(chance)
            policy = Policy(parts)
            for kind in KINDS:
                for node in range(len(parts[1]) + 2):
                    expected = melt_by_words(parts, kind, node)
                    self.assertIs(can_melt(policy=policy, kind=kind, node=node), expected is not None, (parts, kind, node))
                    if expected is None:
                        self.assertEqual(raised(melted, policy, kind, node), ("NotMeltable", kind, node))
                    else:
                        done[kind] += 1
                        self.assertTrue(same_kinds(melted(policy=policy, kind=kind, node=node).parts(), expected))
            self.assertEqual(policy.parts(), parts)
        self.assertGreater(min(done.values()), 60, done)

    def test_melted_policies_run_alike(self):
        # (G9)
        chance = random.Random(222)
        done = {kind: 0 for kind in KINDS}
        while min(done.values()) < 25:
            policy = Policy(melting_parts(chance))
            for kind in KINDS:
                for node in range(len(policy.names_of())):
                    if done[kind] < 60 and can_melt(policy, kind, node):
                        done[kind] += 1
                        left = Runner(melted(policy, kind, node))
                        run_alike(self, Runner(policy), left, chance, 25, facts=few_facts)

    def test_disciplines_melt_and_run_alike(self):
        chance = random.Random(223)
        melts = 0
        for _ in range(120):
            policy = read_policy(discipline_policy(random_discipline(chance, chance.randint(2, 9))))
            lean, done = lean_policy(policy)
            melts += len(done)
            run_alike(self, Runner(policy), Runner(lean), chance, 30, facts=few_facts)
        self.assertGreater(melts, 40)

    def test_same(self):
        policy = policy_of(((), TWO), [[NUMBER, STAMP], [NUMBER, NUMBER, STAMP], [NUMBER, NUMBER, NUMBER]])
        left = melted(policy, "same", 2)
        self.assertEqual(left.parts(), (
            ((), (), ()), ("n0", "n1", "n3", "n4"), policy.parts()[2],
            ((0, 0, (("n0", NUMBER), ("n1", STAMP))), (1, 1, (("n0", NUMBER), ("n3", STAMP))), ("*", 2, (("n0", NUMBER), ("n4", NUMBER)))),
            ()))

    def test_what_an_echo_is(self):
        let = (("let", "a", ("name", "number")), ("rank", (("name", "a"),)))
        idle = (("let", "b", ONE),) + NUMBER
        kept = {"n2": (("v", 0),)}
        for top, below, keeps, fits in [
                (NUMBER, let, {}, True), (let, NUMBER, {}, True), (idle, NUMBER, {}, True), (NUMBER, idle, {}, False),
                (NUMBER, STAMP, {}, False), (NUMBER, NUMBER, kept, False), (NUMBER, NUMBER, {"n0": (("v", 0),)}, True),
                (NUMBER, (("rank", NUMBER[0][1] * 2),), {}, False), (ints(1), ints(1), {}, True)]:
            policy = policy_of(((), TWO), [[NUMBER, STAMP]] + [[top, below, STAMP]] * 2, tuple(keeps.items()))
            self.assertIs(can_melt(policy, "same", 2), fits, (top, below))

    def doubled(self, many):
        """Lets by which the rank has so many nodes: the sum of n names has 2 * n - 1."""
        steps = [("let", "a0", ("name", "size"))]
        trees, left = [], (many + 1) // 2
        for place in range(left.bit_length()):
            if place:
                steps.append(("let", f"a{place}", ("+", ("name", f"a{place - 1}"), ("name", f"a{place - 1}"))))
            if left >> place & 1:
                trees.append(("name", f"a{place}"))
        tree = trees[0]
        for more in trees[1:]:
            tree = ("+", tree, more)
        return tuple(steps) + (("rank", (tree,)),)

    def test_five_hundred_nodes_are_put_in(self):
        for many, fits in ((499, True), (501, False)):
            steps = self.doubled(many)
            self.assertEqual(rank_put_in(steps) is not None, fits)
            policy = policy_of(((), TWO), [[NUMBER, STAMP]] + [[steps, steps, STAMP]] * 2)
            self.assertIs(can_melt(policy, "same", 2), fits)
        # What has too many nodes on one side only is no echo, either.
        great = self.doubled(501)
        for top, below in ((great, NUMBER), (NUMBER, great), (great, self.doubled(499)), (self.doubled(499), great)):
            policy = policy_of(((), TWO), [[NUMBER, STAMP]] + [[top, below, STAMP]] * 2)
            self.assertIs(can_melt(policy, "same", 2), False)
        more = self.doubled(499)
        for rank, fits in (((ONE,), True), ((ONE, ONE), False)):
            steps = more[:-1] + (("rank", more[-1][1] + rank),)
            policy = policy_of(((), TWO), [[NUMBER, STAMP]] + [[steps, steps, STAMP]] * 2)
            self.assertIs(can_melt(policy, "same", 2), fits)

    def test_same_with_an_out(self):
        rows = [[NUMBER, STAMP]] + [[NUMBER, NUMBER, STAMP]] * 2
        outs = {0: True, 1: True, 2: False, 3: True}
        for node, fits in outs.items():
            self.assertIs(can_melt(policy_of(((), TWO), rows, outs=((node, f"n{node}", (9,), ()),)), "same", 2), fits)

    def test_strict(self):
        set_v = (("set", "v", ("name", "size")),)
        rows = [[ints(0), STAMP], [ints(1), set_v + NUMBER, STAMP], [ints(1), ints(7, 8), STAMP]]
        keeps = (("n0", (("v", 1),)), ("n2", (("v", 2),)))
        outs = ((0, "n0", (0,), (("set", "v", ONE),)), (1, "n1", (), ()), (2, "n2", (), (("set", "v", ("name", "rank")),)),
                (2, "n2", (7,), ()), (4, "n4", (5,), ()))
        policy = policy_of(((), TWO), rows, keeps, outs)
        left = melted(policy, "strict", 2)
        self.assertEqual(left.parts(), (
            ((), (), ()), ("n0", "n1", "n3", "n4"), policy.parts()[2],
            ((0, 0, (("n0", ints(0)), ("n1", STAMP))),
             (1, 1, (("n2", set_v + (("rank", (ONE, ("name", "number"))),)), ("n3", STAMP))),
             ("*", 2, (("n2", ints(1, 7, 8)), ("n4", STAMP)))),
            ((0, "n0", (0,), (("set", "v", ONE),)), (0, "n2", (1,), (("set", "v", ("name", "rank")),)), (0, "n2", (1, 7), ()),
             (1, "n1", (), ()), (3, "n4", (5,), ()))))

    def test_strict_rows_have_to_be_parted(self):
        expr = ("name", "f0")
        for other, fits in [
                (ints(0), True), (ints(1), False), (ints(1, 1), False), (ints(2, 9), True), (NUMBER, False),
                ((("rank", (ZERO, expr)),), True), ((("rank", (ONE, expr)),), False), ((("rank", (expr, ZERO)),), False),
                ((("let", "a", expr), ("rank", (ZERO, ("name", "a")))), True)]:
            policy = policy_of(((), TWO), [[other, STAMP]] + [[ints(1), NUMBER, STAMP]] * 2)
            self.assertIs(can_melt(policy, "strict", 2), fits, other)
        for row, other, fits in [(ints(1, 2), ints(1, 3), True), (ints(1, 2), ints(1), False), (ints(1), ints(1, 2), False),
                                 (ints(1, 2), (("rank", (ONE, expr)),), False)]:
            policy = policy_of(((), TWO), [[other, STAMP]] + [[row, NUMBER, STAMP]] * 2)
            self.assertIs(can_melt(policy, "strict", 2), fits, (row, other))

    def test_strict_needs_one_bare_row(self):
        for one, other, fits in [(ints(1), ints(1), True), (ints(1), ints(2), False), (NUMBER, NUMBER, False),
                                 ((("let", "a", ONE),) + ints(1), ints(1), False),
                                 ((("let", "a", ONE), ("rank", (ONE, ("name", "a")))), ints(1, 1), False)]:
            policy = policy_of(((), TWO), [[ints(0), STAMP], [one, NUMBER, STAMP], [other, NUMBER, STAMP]])
            self.assertIs(can_melt(policy, "strict", 2), fits, (one, other))
        policy = policy_of(((), TWO), [[ints(0), STAMP]] + [[(("set", "v", ONE),) + ints(1), NUMBER, STAMP]] * 2, (("n0", (("v", 0),)),))
        self.assertIs(can_melt(policy, "strict", 2), False)

    def test_prefixes_that_begin_with_the_row(self):
        rows = [[ints(0), STAMP]] + [[ints(1, 2), NUMBER, STAMP]] * 2
        for prefix, fits in [((), True), ((1,), True), ((1, 2), False), ((1, 2, 3), False), ((1, 3), True), ((2, 1, 2), True)]:
            policy = policy_of(((), TWO), rows, outs=((0, "n0", prefix, ()),))
            self.assertIs(can_melt(policy, "strict", 2), fits, prefix)

    def test_eight_elements_together(self):
        for row, longest, prefix, fits in [((1,), 7, 0, True), ((1,), 8, 0, False), ((1,), 1, 7, True), ((1,), 1, 8, False),
                                           ((1, 1, 1), 5, 5, True), ((1, 1, 1), 5, 6, False), ((1,) * 7, 1, 1, True), ((1,) * 8, 1, 0, False)]:
            own = ints(*range(longest))
            policy = policy_of(((), TWO), [[ints(0), STAMP], [ints(*row), own, STAMP], [ints(*row), NUMBER, STAMP]],
                               outs=((2, "n2", (4,) * prefix, ()),))
            self.assertIs(can_melt(policy, "strict", 2), fits, (row, longest, prefix))
            policy = policy_of(TWO, [[ints(*row), own], [ints(0), NUMBER]], outs=((1, "n1", (4,) * prefix, ()),))
            self.assertIs(can_melt(policy, "into", 0), fits, (row, longest, prefix))
            # At the other child the row is shorter.
            policy = policy_of(TWO, [[ints(*row), NUMBER], [ints(0), own]], outs=((2, "n2", (4,) * min(prefix, 7), ()),))
            self.assertIs(can_melt(policy, "into", 0), longest <= 7 and len(row) <= 7, (row, longest, prefix))

    def test_six_children_at_most(self):
        for more, fits in ((4, True), (5, False)):
            form = (TWO,) + ((),) * more
            rows = [[ints(0), ints(0), STAMP]] * 2 + [[ints(1), STAMP]] * more
            policy = policy_of(form, rows)
            for kind in ("same", "strict"):
                self.assertIs(can_melt(policy, kind, 1), fits, (kind, more))
        policy = policy_of((SIX, ()), [[ints(0), ints(0), STAMP]] * 6 + [[ints(1), STAMP]])
        self.assertEqual([can_melt(policy, kind, 1) for kind in KINDS], [False, False, False])
        policy = policy_of(((), ((),) * 5), [[ints(1), STAMP]] + [[ints(0), ints(0), STAMP]] * 5)
        self.assertEqual([can_melt(policy, kind, 2) for kind in KINDS], [True, True, False])

    def without_route(self, outs=()):
        """A policy in which no route goes through the second child of the root, a fork of two queues."""
        return Policy((((), TWO), ("a", "b", "c", "d", "e"), (("m", ()), ("p", ()), ("x", (("v", 1),)), ("y", ())),
                       (("*", 0, (("m", ints(1)), ("p", ints(2)))),), outs))

    def test_a_node_without_a_route(self):
        policy = self.without_route(((0, "m", (), ()), (2, "y", (3,), ()), (3, "x", (), (("set", "v", ONE),))))
        self.assertEqual([can_melt(policy, kind, 2) for kind in KINDS], [False, False, True])
        self.assertEqual(melted(policy, "into", 2).parts(), (
            ((), ()), ("a", "b", "c"), policy.parts()[2], policy.parts()[3], ((0, "m", (), ()), (2, "y", (3,), ()))))
        self.assertEqual(lean_policy(policy)[1], (("into", 2), ("into", 0)))

    def test_into_by_rows(self):
        rows = [[ints(5), NUMBER], [ints(4, 4), STAMP], [ints(4, 3), ints(1)]]
        outs = ((0, "n0", (3,), ()), (1, "n1", (), ()), (2, "n2", (6, 7), ()), (2, "n2", (), ()), (3, "n3", (1,), ()))
        policy = policy_of(((), (), ()), rows, outs=outs)
        self.assertEqual(melted(policy, "into", 0).parts(), (
            (), ("n0",), policy.parts()[2],
            ((0, 0, (("n1", (("rank", (("int", 5), ("name", "number"))),)),)), (1, 0, (("n2", (("rank", (("int", 4), ("int", 4), ("name", "stamp"))),)),)),
             ("*", 0, (("n3", ints(4, 3, 1)),))),
            ((0, "n0", (3,), ()), (0, "n1", (5,), ()), (0, "n2", (4, 4, 6, 7), ()), (0, "n2", (4, 4), ()), (0, "n3", (4, 3, 1), ()))))

    def test_into_needs_parted_rows(self):
        for one, other, fits in [(ints(1), ints(2), True), (ints(1), ints(1), False), (ints(1), ints(1, 2), False),
                                 (ints(1, 1), ints(1, 2), True), (ints(1), NUMBER, False)]:
            self.assertIs(can_melt(policy_of(TWO, [[one, STAMP], [other, STAMP]]), "into", 0), fits, (one, other))
        # Two routes through one child have to have the same row there.
        for more, fits in ((ints(1), True), (ints(3), False), ((("let", "a", ONE),) + ints(1), False)):
            parts = policy_of(TWO, [[ints(1), STAMP], [ints(2), STAMP]]).parts()
            routes = (parts[3][0], (7, 0, (("n0", more), ("n1", NUMBER))), parts[3][1])
            self.assertIs(can_melt(Policy(parts[:3] + (routes, ())), "into", 0), fits, more)
        for prefix, fits in [((), True), ((1,), False), ((1, 5), False), ((2,), False), ((3,), True)]:
            policy = policy_of(TWO, [[ints(1), STAMP], [ints(2), STAMP]], outs=((0, "n0", prefix, ()),))
            self.assertIs(can_melt(policy, "into", 0), fits, prefix)

    def test_into_by_echoes(self):
        policy = policy_of((TWO, ()), [[ints(1), NUMBER, NUMBER]] * 2 + [[ints(2), STAMP]])
        self.assertEqual(melted(policy, "into", 1).parts(), (
            TWO, ("n0", "n1", "n4"), policy.parts()[2],
            ((0, 0, (("n0", ints(1)), ("n1", NUMBER))), (1, 0, (("n0", ints(1)), ("n1", NUMBER))), ("*", 1, (("n0", ints(2)), ("n4", STAMP)))), ()))
        for node, fits in ((0, True), (1, True), (2, False), (3, False), (4, True)):
            told = policy_of((TWO, ()), [[ints(1), NUMBER, NUMBER]] * 2 + [[ints(2), STAMP]], outs=((node, f"n{node}", (9,), ()),))
            self.assertIs(can_melt(told, "into", 1), fits, node)
        self.assertIs(can_melt(policy_of(TWO, [[NUMBER, NUMBER], [NUMBER, STAMP]]), "into", 0), False)

    def test_rows_come_ahead_of_echoes(self):
        # Both could be done; by the rows the sections get longer.
        policy = policy_of(TWO, [[ints(1), ints(1)], [ints(2), ints(2)]])
        self.assertEqual([route[2] for route in melted(policy, "into", 0).parts()[3]], [(("n1", ints(1, 1)),), (("n2", ints(2, 2)),)])
        # With the row of one child only the echoes are left where the rows are not parted.
        policy = policy_of(TWO, [[ints(1), ints(1)], [ints(1), ints(1)]])
        self.assertEqual([route[2] for route in melted(policy, "into", 0).parts()[3]], [(("n0", ints(1)),)] * 2)

    def test_outs_of_children_without_a_route_go(self):
        parts = policy_of(TWO, [[ints(1), STAMP], [ints(2), STAMP]], outs=((1, "n1", (), ()), (2, "n2", (), ()))).parts()
        policy = Policy(parts[:3] + ((("*", 0, parts[3][0][2]),), parts[4]))
        self.assertEqual(melted(policy, "into", 0).parts()[4], ((0, "n1", (1,), ()),))

    def test_what_is_no_fork_cannot_be_melted(self):
        policy = policy_of(PAIRS, [[ints(k // 2), ints(k), STAMP] for k in range(4)])
        for kind in KINDS:
            for node in (2, 3, 5, 6, 7, 2 ** 60, 10 ** 80):
                self.assertIs(can_melt(policy, kind, node), False)
                self.assertEqual(raised(melted, policy, kind, node), ("NotMeltable", kind, node))
        self.assertEqual([can_melt(policy, kind, 0) for kind in KINDS], [False, False, False])
        self.assertEqual([can_melt(policy, "into", node) for node in (1, 4)], [True, True])
        self.assertEqual([can_melt(policy, "strict", node) for node in (1, 4)], [True, True])

    def test_wrong_parameters(self):
        policy = read_policy(free_policy(TWO))
        bad = {"policy": NOT_POLICIES, "kind": [None, True, 0, "", "Same", "own", ("same",), ["same"], ()], "node": NOT_NUMBERS}
        for call in (can_melt, melted):
            check_refusals(self, call, {"policy": policy, "kind": "into", "node": 0}, bad)


class LeanTest(unittest.TestCase):
    def test_the_first_melt_each_time(self):
        chance = random.Random(224)
        lengths = set()
        for _ in range(250):
            parts = melting_parts(chance)
            left, melts = parts, []
            found = True
            while found:
                found = False
                for kind in KINDS:
                    for node in range(len(left[1])):
                        told = None if found else melt_by_words(left, kind, node)
                        if told is not None:
                            found, behind = True, told
                            melts.append((kind, node))
                left = behind if found else left
            policy, done = lean_policy(policy=Policy(parts))
            self.assertTrue(same_kinds((policy.parts(), done), (left, tuple(melts))))
            self.assertEqual(lets_melts(policy=Policy(parts), melts=done), len(left[1]))
            lengths.add(len(done))
        self.assertGreater(len(lengths), 3)

    def test_kinds_in_their_sequence(self):
        # A "same" that a "strict" lets come is done next.
        policy = read_policy(discipline_policy("strict(come come(come(due small) due))"))
        left, melts = lean_policy(policy)
        self.assertEqual(melts[0], ("same", 3))
        self.assertEqual(lets_melts(policy, melts), len(left.names_of()))
        self.assertEqual(lean_policy(left)[1], ())
        policy = read_policy(discipline_policy("strict(come strict(due small))"))
        left, melts = lean_policy(policy)
        self.assertEqual((melts, left.shape_of(), left.names_of()), ((("strict", 2), ("into", 0)), (), ("k0",)))
        policy = read_policy(discipline_policy("come(come come(due come))"))
        self.assertEqual(lean_policy(policy)[1], (("same", 2),))
        policy = read_policy(discipline_policy("turns:1:2(due small)"))
        self.assertEqual(lean_policy(policy)[1], ())
        self.assertEqual(lean_policy(policy)[0].parts(), policy.parts())

    def test_words(self):
        policy = read_policy(discipline_policy("strict(come strict(due small))"))
        good = (("strict", 2), ("into", 0))
        self.assertEqual(lets_melts(policy, good), 1)
        self.assertEqual(lets_melts(policy, (("into", 2), ("into", 0))), 1)
        rows = {
            ("shape", -1): [None, True, 0, "", [], list(good)],
            ("melt", 0): [(None,), (("strict",),), (("strict", 2, 3),), (["strict", 2],), (("own", 2),), ((True, 2),), ((["same"], 2),),
                          (("strict", None),), (("strict", True),), (("strict", -1),), (("strict", "2"),), ("strict", 2), (("strict", [2]),) + good],
            ("melt", 1): [good[:1] + (None,), good[:1] + (("into", True),), good[:1] + (deep(80),) + good],
            ("cannot", 0): [(("strict", 1),), (("same", 2),), (("strict", 0),), (("into", 0),), (("strict", 9),), (("strict", 2 ** 70), None)],
            ("cannot", 1): [good[:1] + good, (("into", 2), ("strict", 2)), good[:1] + (("same", 0), None)],
            ("cannot", 2): [good + (("into", 0),)],
            ("more", -1): [(), good[:1], (("into", 2),)],
        }
        for told, values in rows.items():
            for value in values:
                self.assertEqual(raised(lets_melts, policy, value), ("InvalidPaper",) + told, value)

    def test_wrong_parameters(self):
        policy = read_policy(free_policy(TWO))
        check_refusals(self, lean_policy, {"policy": policy}, {"policy": NOT_POLICIES})
        for bad in NOT_POLICIES:
            self.assertEqual(raised(lets_melts, bad, None), ("NotUsable", "policy", -1))
            self.assertEqual(raised(lets_melts, policy=bad, melts=()), ("NotUsable", "policy", -1))


if __name__ == "__main__":
    unittest.main()
