"""What the tests share: samples, wrong values, shapes and plans told by the words of the document."""

import itertools
import random
import re

from nextbough.errors import BoughError, NotUsable
from nextbough.exprtexts import expr_text
from nextbough.layingcounts import count_layings
from nextbough.layingnumbers import nth_laying
from nextbough.plans import Plan
from nextbough.standings import Standing

TWO = ((), ())
PAIRS = (((), ()), ((), ()))
COMB = ((((), ()), ()), ())
FLAT = ((), (), (), ())
LONG = ((((), ()),), ())
THREE = (((), ()), ())
SIX = ((),) * 6

NOT_SHAPES = [None, True, False, 0, 1, -1, "", "o", [], [(), ()], ((), []), ([],), ((),) * 7, (((),) * 7, ()), ("o",),
              (None,), (0,), ((), True)]
NOT_PLAIN = NOT_SHAPES + [((),), (((),), ()), LONG]
NOT_NUMBERS = [None, True, False, -1, "0", "", (), [], (0,), [0]]
NOT_COUNTS = NOT_NUMBERS + [0]
NOT_TEXTS = [None, True, 0, (), ("o",), ["o"]]
NOT_RANKS = [None, True, 0, "", [], [1], (True,), (False,), (None,), ("1",), ((),), ([],), (1,) * 9, (0,) * 9,
             (2 ** 200,), (-2 ** 200,), (0, 2 ** 200)]
NOT_LINES = [None, True, 0, "", [], [((), 0)], (0,), ((),), (((), 0, 0),), ([(), 0],), (((1,), 0), ((0,), 0)),
             (((True,), 0),), ((0, 0),), ((((0,)), 0), ((), 0))]
MOST_WORTH = 2 ** 200 - 1
# How many arguments the words of expressions have that take expressions alone.
WORDS = {"max": 2, "min": 2, "if": 3, "less": 2, "same": 2}
NOT_STANDINGS = [None, True, 0, "", (), [], (((), 0),)]


def raised(call, *args, **named):
    """The error of the package that the call raises, as its name and its fields; None if it raises none."""
    try:
        call(*args, **named)
    except BoughError as error:
        return (type(error).__name__,) + tuple(vars(error).values())
    return None


def check_refusals(case, call, good, bad):
    """Each bad value of each parameter is told by the parameter's name, the first wrong one first.

    good is a dict with a right value for each parameter, in sequence; bad has wrong ones.
    """
    names = list(good)
    for name in names:
        case.assertIn(name, bad)
        for value in bad[name]:
            named = dict(good)
            named[name] = value
            told = ("NotUsable", name, -1)
            case.assertEqual(raised(call, **named), told, (call, name, value))
            case.assertEqual(raised(call, *named.values()), told, (call, name, value))
    for one, other in itertools.combinations(names, 2):
        # Values that are wrong whatever the others are stand first in each list.
        named = dict(good)
        named[one] = bad[one][0]
        named[other] = bad[other][0]
        told = ("NotUsable", one, -1)
        case.assertEqual(raised(call, **named), told, (call, one, other))
        case.assertEqual(raised(call, *named.values()), told, (call, one, other))


def same_kinds(one, other):
    """Whether the values are equal and of the same kinds, element by element."""
    if type(one) is not type(other):
        return False
    if isinstance(one, (tuple, list)):
        return len(one) == len(other) and all(same_kinds(left, right) for left, right in zip(one, other))
    return one == other


class Nodes:
    """The nodes of a shape, told apart from the program: lists by node, and the nodes of the queues."""

    def __init__(self, form):
        self.shapes = []
        self.above = []
        self.kids = []
        self.held = []
        self.leaves = []
        self.walk(form, ())

    def walk(self, form, above):
        node = len(self.shapes)
        self.shapes.append(form)
        self.above.append(above)
        self.kids.append([])
        self.held.append([])
        if form == ():
            for top in above + (node,):
                self.held[top].append(len(self.leaves))
            self.leaves.append(node)
        for kid in form:
            self.kids[node].append(len(self.shapes))
            self.walk(kid, above + (node,))

    def path(self, queue):
        return self.above[self.leaves[queue]] + (self.leaves[queue],)

    def forks(self):
        return [node for node, kids in enumerate(self.kids) if kids]

    def meet(self, queues):
        return max(node for node, held in enumerate(self.held) if set(queues) <= set(held))


def plain_shapes(many):
    """All plain shapes with that many queues, turned or not."""
    if many == 1:
        return [()]
    found = []
    for parts in range(2, min(6, many) + 1):
        for sizes in itertools.product(range(1, many), repeat=parts):
            if sum(sizes) == many:
                found.extend(itertools.product(*[plain_shapes(size) for size in sizes]))
    return found


def random_shape(chance, many, plain, deep=9):
    """A shape with that many queues; unless it is to be plain, some forks have one child."""
    if not plain and deep > 0 and chance.random() < 0.15:
        return (random_shape(chance, many, plain, deep - 1),)
    if many == 1:
        return ()
    parts = 2 if deep <= 0 else chance.randint(2, min(6, many))
    cuts = sorted(chance.sample(range(1, many), parts - 1))
    sizes = [high - low for low, high in zip([0] + cuts, cuts + [many])]
    return tuple(random_shape(chance, size, plain, deep - 1) for size in sizes)


def sample_shapes(many=40, plain=False, queues=8, seed=7):
    """The same samples each time."""
    chance = random.Random(seed)
    named = [(), TWO, PAIRS, COMB, FLAT, THREE, SIX]
    if not plain:
        named = named + [((),), (((),),), LONG, ((), ((),), ()), ((SIX,),)]
    return named + [random_shape(chance, chance.randint(1, queues), plain) for _ in range(many)]


def random_ranks(chance, length, spread=3, bare=True):
    """Ranks for a path of this length; with ties, and with () among them if bare."""
    low = 0 if bare else 1
    return tuple(
        tuple(chance.randint(-spread, spread) for _ in range(chance.randint(low, 2))) for _ in range(length)
    )


def fill(standing, chance, pushes, spread=3, bare=True, leaves=0.2):
    """Pushes packets with such ranks, and lets some depart in between."""
    nodes = Nodes(standing.form_of())
    for number in range(pushes):
        queue = chance.randrange(len(nodes.leaves))
        standing.push(number, queue, random_ranks(chance, len(nodes.path(queue)), spread, bare))
        if chance.random() < leaves:
            standing.depart()
    return standing


def listed_layings(plain, chip):
    """All layings, ascending, by the words of the definition."""
    small, large = Nodes(plain), Nodes(chip)
    found = []
    for images in itertools.permutations(range(len(large.leaves)), len(small.leaves)):
        if all(
            {image for image in images if image in large.held[large.meet([images[q] for q in small.held[fork]])]}
            == {images[q] for q in small.held[fork]}
            for fork in small.forks()
        ):
            found.append(images)
    return found


def is_refused(error, word):
    return isinstance(error, NotUsable) and (error.word, error.at) == (word, -1)


NOT_PLANS = [None, True, 0, "", (), [], (TWO, LONG, (1, 0)), TWO]
NOT_PACKETS = NOT_NUMBERS + [2 ** 60, 2 ** 70]
NOT_IMAGES = [None, True, 0, "", [], (), (0,), (0, 1, 2), [0, 1], (0, 0), (0, 9), (-1, 0), (True, 0), (0, False),
              (0, None), ("0", 1), ((0,), 1), ([0], 1)]


def sample_plans(many=40, seed=5, most=7, more=4, wide=12):
    """Plans on chips with more queues than the plain shape, some forks of them with one child."""
    chance = random.Random(seed)
    plans = [Plan((), (), (0,)), Plan((), LONG, (2,)), Plan((), ((((),),),), (0,)), Plan(TWO, LONG, (1, 0)),
             Plan(TWO, ((((), ()),),), (1, 0)), Plan(FLAT, PAIRS, (3, 1, 0, 2)), Plan(FLAT, COMB, (0, 3, 2, 1)),
             Plan(THREE, ((((((), ()),),), ()),), (1, 0, 2)), Plan(THREE, COMB, (0, 1, 3)),
             Plan(SIX, (((), ()), ((((), ()),), ((), ()))), (5, 0, 4, 1, 3, 2))]
    while len(plans) < many:
        plain = random_shape(chance, chance.randint(1, most), True)
        chip = random_shape(chance, min(wide, len(Nodes(plain).leaves) + chance.randint(0, more)), False, 6)
        total = count_layings(plain, chip)
        if total:
            plans.append(Plan(plain, chip, nth_laying(plain, chip, chance.randrange(total))))
    return plans


def meet_depth(nodes, one, other):
    """The depth of the meet of two queues."""
    return len(nodes.above[nodes.meet([one, other])])


def deep(many):
    """A tuple nested so deep."""
    thing = ()
    for _ in range(many):
        thing = (thing,)
    return thing


def tree_nodes(trees):
    """How many tuples are in these expressions, each as often as it stands there."""
    many = 0
    left = list(trees)
    while left:
        part = left.pop()
        many += 1
        left.extend(below for below in part[1:] if isinstance(below, tuple))
    return many


def random_tree(chance, deepest, names=("a", "b1", "rank", "f7", "size", "maxa", "o1"), great=False):
    if deepest == 0 or chance.random() < 0.2:
        if chance.random() < 0.5:
            return ("name", chance.choice(names))
        return ("int", chance.choice([0, 1, -1, 7, 10 ** 18 - 1, 1 - 10 ** 18] + ([MOST_WORTH, -MOST_WORTH] if great else [])))
    word = chance.choice(["+", "-", "*", "+", "-", "*", "max", "min", "if", "less", "same", "part", "rest"])
    if word in ("part", "rest"):
        return (word, random_tree(chance, deepest - 1, names, great), chance.choice([1, 2, 7, 10 ** 18 - 1]))
    return (word,) + tuple(random_tree(chance, deepest - 1, names, great) for _ in range(WORDS.get(word, 2)))


def python_value(text, names):
    """What Python makes of the text, which is also the text of a Python expression, but for if."""
    calls = {"choose": lambda a, b, c: b if a != 0 else c, "less": lambda a, b: int(a < b),
             "same": lambda a, b: int(a == b), "part": lambda a, n: a // n, "rest": lambda a, n: a % n,
             "max": max, "min": min}
    # Two words that Python keeps for itself.
    text = re.sub(r"\bclass\b", "kind", re.sub(r"\bif\(", "choose(", text))
    return eval(text, {"__builtins__": {}}, dict(names, kind=names.get("class"), **calls))


def worths_in(tree, names):
    """The worth of the expression by Python, or None if one of all that come up is no worth."""
    found = []
    left = [tree]
    while left:
        part = left.pop()
        found.append(int(python_value(expr_text(part), names)))
        left.extend(below for below in part[1:] if isinstance(below, tuple))
    return found[0] if all(abs(worth) <= MOST_WORTH for worth in found) else None


def worked_by_words(steps, names):
    """The rank and the sets of the steps, or None if anything that comes up is no worth."""
    names, sets, rank = dict(names), [], ()
    for step in steps:
        worths = [worths_in(tree, names) for tree in (step[1] if step[0] == "rank" else step[2:])]
        if None in worths:
            return None
        if step[0] == "rank":
            rank = tuple(worths)
        elif step[0] == "let":
            names[step[1]] = worths[0]
        else:
            sets.append((step[1], worths[0]))
    return rank, tuple(sets)


def random_steps(chance, keeps, is_out, great=False, lets=("a", "b", "c")):
    """Steps of an out, or else of a section, of an origin with these keeps."""
    names = list(keeps) + ["class", "size", "stamp", "number", "f0", "f3"] + (["rank"] if is_out else [])
    steps = []
    fresh = [name for name in lets if name not in keeps]
    for _ in range(chance.randint(0, 4)):
        tree = random_tree(chance, chance.randint(0, 3), names, great)
        if fresh and chance.random() < 0.5:
            steps.append(("let", fresh[0], tree))
            names.append(fresh.pop(0))
        elif keeps:
            steps.append(("set", chance.choice(list(keeps)), tree))
    if not is_out:
        trees = [random_tree(chance, chance.randint(0, 2), names, great) for _ in range(chance.randint(1, 3))]
        steps.append(("rank", tuple(trees)))
    return tuple(steps)


def random_parts(chance, form=None, great=False):
    """Parts of a policy: one or two origins at each node, with keeps, sets, and outs with prefixes."""
    form = random_shape(chance, chance.randint(1, 6), True) if form is None else form
    nodes = Nodes(form)
    many = len(nodes.shapes)
    keeps, stands = [], []
    for node in range(many):
        for more in range(chance.randint(1, 2)):
            names = chance.sample(["v", "w", "x1"], chance.randint(0, 3))
            worths = [0, 1, -3] + ([MOST_WORTH, -MOST_WORTH] if great else [])
            stands.append((node, f"m{node}x{more}"))
            keeps.append((stands[-1][1], tuple((name, chance.choice(worths)) for name in names)))
    table = {origin: [name for name, _ in pairs] for origin, pairs in keeps}
    routes = []
    for number in sorted(chance.sample(range(8), chance.randint(0, 5))) + ["*"]:
        queue = chance.randrange(len(nodes.leaves))
        sections = []
        for node in nodes.path(queue):
            origin = chance.choice([name for at, name in stands if at == node])
            sections.append((origin, random_steps(chance, table[origin], False, great)))
        routes.append((number, queue, tuple(sections)))
    outs = []
    for node in range(many):
        for _ in range(chance.randint(0, 3)):
            origin = chance.choice([name for at, name in stands if at == node])
            prefix = chance.choice([(), (), (), (0,), (1,), (0, 1)])
            outs.append((node, origin, prefix, random_steps(chance, table[origin], True, great)))
    chance.shuffle(keeps)
    return (form, tuple(f"n{node}" for node in range(many)), tuple(keeps), tuple(routes), tuple(outs))


def random_facts(chance, great=False):
    """Facts of a packet; now and then at their bounds."""
    ends = [MOST_WORTH, -MOST_WORTH] if great else [5, -9]
    return (chance.choice([0, 1, 2, 5, 7, 99, chance.randint(0, 99)]), chance.choice([1, 10 ** 6, chance.randint(1, 99)]),
            chance.choice([0, 2 ** 60 - 1, 1 - 2 ** 60, chance.randint(-9, 9)]),
            tuple(chance.choice([0, 1, 2, chance.choice(ends)]) for _ in range(chance.randint(0, 8))))


NOT_POLICIES = [None, True, 0, "", "root q", (), [], TWO]
QUEUE_WORDS = ("come", "due", "small", "free")
NOT_FACTS = [None, True, 0, "", (), [], (0, 5, 0), (0, 5, 0, (), 0), [0, 5, 0, ()], (100, 5, 0, ()), (-1, 5, 0, ()),
             (True, 5, 0, ()), (0, 0, 0, ()), (0, 10 ** 6 + 1, 0, ()), (0, True, 0, ()), (0, 5, 2 ** 60, ()),
             (0, 5, None, ()), (0, 5, 0, []), (0, 5, 0, (2 ** 200,)), (0, 5, 0, (False,)), (0, 5, 0, (0,) * 9)]


def random_discipline(chance, many, deep=3):
    """The text of a discipline with that many queues."""
    if many == 1:
        return chance.choice(QUEUE_WORDS)
    parts = min(many, chance.randint(2, 6) if deep > 0 else 6)
    cuts = sorted(chance.sample(range(1, many), parts - 1))
    sizes = [high - low for low, high in zip([0] + cuts, cuts + [many])]
    kind = chance.choice(["come", "due", "small", "strict", "turns", "turns"])
    if kind == "turns":
        kind += "".join(f":{chance.choice([1, 1, 2, 3, 4, 6, 7, 20, chance.randint(1, 20)])}" for _ in sizes)
    return f"{kind}({' '.join(random_discipline(chance, size, deep - 1) for size in sizes)})"


def longest_beginning(text, begins):
    """The length of the longest beginning of text for which begins(beginning) holds, as it does for all shorter ones."""
    low, high = 0, len(text)
    while low < high:
        middle = (low + high + 1) // 2
        low, high = (middle, high) if begins(text[:middle]) else (low, middle - 1)
    return low


def run_alike(case, one, other, chance, steps, great=False, facts=random_facts, looks=("order", "keeps_now", "taken")):
    """Both take, refuse and let depart the same, and look the same; how many packets were refused."""
    refused = 0
    for _ in range(steps):
        if chance.random() < 0.4:
            case.assertEqual(one.depart(), other.depart())
        else:
            packet = facts(chance, great) if facts is random_facts else facts(chance)
            told = raised(one.arrive, packet)
            if told is None:
                # The other one is asked by a call of its own.
                case.assertEqual(other.arrive(packet), one.taken() - 1)
            else:
                refused += 1
                case.assertEqual(raised(other.arrive, facts=packet), told)
        for look in looks:
            case.assertTrue(same_kinds(getattr(one, look)(), getattr(other, look)()), look)
    return refused


class Beginnings:
    """Which beginnings of a text some text of a grammar has, by trying all ways; for disciplines and operators."""

    def __init__(self, text, leaves):
        self.text = text
        self.leaves = leaves
        # Whether the end of the text was reached amid a way.
        self.ran_out = False
        self.known = {}

    def begins(self):
        whole = self.part(0)
        return self.ran_out or len(self.text) in whole

    def is_whole(self):
        return len(self.text) in self.part(0)

    def literal(self, places, word):
        found = set()
        for at in places:
            if self.text.startswith(word, at):
                found.add(at + len(word))
            elif word.startswith(self.text[at:]):
                self.ran_out = True
        return found

    def part(self, at):
        if at not in self.known:
            found = set()
            for leaf in self.leaves:
                found |= self.names(self.literal({at}, "mount ")) if leaf == "mount" else self.literal({at}, leaf)
            for kind in ("come", "due", "small", "strict"):
                for many in range(2, 7):
                    found |= self.kids(self.literal({at}, kind + "("), many)
            for many in range(2, 7):
                places = self.literal({at}, "turns")
                for _ in range(many):
                    places = set().union(*[self.literal(places, f":{weight}") for weight in range(1, 21)])
                found |= self.kids(self.literal(places, "("), many)
            self.known[at] = found
        return self.known[at]

    def kids(self, places, many):
        for place in range(many):
            if place:
                places = self.literal(places, " ")
            places = set().union(*[self.part(at) for at in places])
        return self.literal(places, ")")

    def names(self, places):
        barred = "root tree class at keep in out let set rank max min if less same part rest size stamp number o".split()
        barred += [f"f{k}" for k in range(8)]
        found = set()
        for at in places:
            for end in range(at, min(at + 12, len(self.text)) + 1):
                if not re.fullmatch("([a-z][a-z0-9]*)?", self.text[at:end]):
                    break
                if end == len(self.text) and end < at + 12:
                    self.ran_out = True
                if end > at and self.text[at:end] not in barred:
                    found.add(end)
        return found


def near_texts(chance, text, signs, many):
    """The text cut at each place, and some with a sign more, less or another."""
    found = [text[:at] for at in range(len(text) + 1)]
    for _ in range(many):
        at = chance.randint(0, len(text))
        sign = chance.choice(signs)
        found.append(chance.choice([text[:at] + sign + text[at:], text[:at] + text[at + 1:], text[:at] + sign + text[at + 1:]]))
    return found


def random_operator(chance, many, names=None, deep=3):
    """The text of an operator with that many places, and what is to be read."""
    if many == 1:
        name = chance.choice(names) if names else f"{chance.choice('abmz')}{chance.randrange(10 ** 6)}"
        return f"mount {name}", ((name,), (), ())
    parts = min(many, chance.randint(2, 6) if deep > 0 else 6)
    cuts = sorted(chance.sample(range(1, many), parts - 1))
    rows = [random_operator(chance, high - low, names, deep - 1) for low, high in zip([0] + cuts, cuts + [many])]
    word = chance.choice(["come", "due", "small", "strict", "turns", "turns"])
    weights = tuple(chance.randint(1, 20) for _ in rows) if word == "turns" else ()
    head = word + "".join(f":{weight}" for weight in weights)
    places = sum((told[0] for _, told in rows), ())
    kinds = sum((told[1] for _, told in rows), ((word, weights),))
    text = f"{head}({' '.join(text for text, _ in rows)})"
    if names is None and len(set(places)) < len(places):
        return random_operator(chance, many, names, deep)
    return text, (places, kinds, tuple(told[2] for _, told in rows))


class Words:
    """A policy at work by the words, as slow as it may be."""

    def __init__(self, parts):
        self.parts = parts
        self.nodes = Nodes(parts[0])
        self.held = Standing(parts[0])
        self.keeps = {origin: dict(pairs) for origin, pairs in parts[2]}
        self.facts = {}
        self.many = 0

    def names(self, facts, number):
        fields = list(facts[3]) + [0] * 8
        told = {"class": facts[0], "size": facts[1], "stamp": facts[2], "number": number}
        return dict(told, **{f"f{k}": fields[k] for k in range(8)})

    def arrive(self, facts):
        routes = {route[0]: route for route in self.parts[3]}
        _, queue, sections = routes.get(facts[0], routes["*"])
        told = []
        for origin, steps in sections:
            told.append((origin, worked_by_words(steps, dict(self.names(facts, self.many), **self.keeps[origin]))))
        for origin, worked in told:
            if worked is None:
                return ("TooGreat", origin)
        for origin, worked in told:
            for name, worth in worked[1]:
                self.keeps[origin][name] = worth
        self.held.push(self.many, queue, tuple(worked[0] for _, worked in told))
        self.facts[self.many] = facts
        self.many += 1
        return self.many - 1

    def depart(self):
        gone = self.held.depart()
        if gone is None:
            return None
        number, queue, ranks = gone
        for node, rank in zip(self.nodes.path(queue), ranks):
            for at, origin, prefix, steps in self.parts[4]:
                if at == node and len(rank) > len(prefix) and rank[:len(prefix)] == prefix:
                    names = dict(self.names(self.facts[number], number), rank=rank[len(prefix)])
                    worked = worked_by_words(steps, dict(names, **self.keeps[origin]))
                    for name, worth in worked[1] if worked else []:
                        self.keeps[origin][name] = worth
        return number

    def keeps_now(self):
        return tuple((origin, tuple((name, self.keeps[origin][name]) for name, _ in pairs)) for origin, pairs in self.parts[2])
