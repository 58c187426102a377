"""What the tests share: samples, wrong values, shapes and plans told by the words of the document."""

import itertools
import random

from nextbough.errors import BoughError, NotUsable
from nextbough.layingcounts import count_layings
from nextbough.layingnumbers import nth_laying
from nextbough.plans import Plan

TWO = ((), ())
PAIRS = (((), ()), ((), ()))
COMB = ((((), ()), ()), ())
FLAT = ((), (), (), ())
LONG = ((((), ()),), ())
THREE = (((), ()), ())
SIX = ((),) * 6

NOT_SHAPES = [None, True, False, 0, 1, -1, "", "o", [], [(), ()], ((), []), ([],), ((),) * 7, (((),) * 7, ()), ("o",),
              (None,), (0,), ((), True)]
NOT_PLAIN = NOT_SHAPES + [((),), (((),), ()), LONG]
NOT_NUMBERS = [None, True, False, -1, "0", "", (), [], (0,), [0]]
NOT_COUNTS = NOT_NUMBERS + [0]
NOT_TEXTS = [None, True, 0, (), ("o",), ["o"]]
NOT_RANKS = [None, True, 0, "", [], [1], (True,), (False,), (None,), ("1",), ((),), ([],), (1,) * 9, (0,) * 9,
             (2 ** 200,), (-2 ** 200,), (0, 2 ** 200)]
NOT_LINES = [None, True, 0, "", [], [((), 0)], (0,), ((),), (((), 0, 0),), ([(), 0],), (((1,), 0), ((0,), 0)),
             (((True,), 0),), ((0, 0),), ((((0,)), 0), ((), 0))]
NOT_STANDINGS = [None, True, 0, "", (), [], (((), 0),)]


def raised(call, *args, **named):
    """The error of the package that the call raises, as its name and its fields; None if it raises none."""
    try:
        call(*args, **named)
    except BoughError as error:
        return (type(error).__name__,) + tuple(vars(error).values())
    return None


def check_refusals(case, call, good, bad):
    """Each bad value of each parameter is told by the parameter's name, the first wrong one first.

    good is a dict with a right value for each parameter, in sequence; bad has wrong ones.
    """
    names = list(good)
    for name in names:
        case.assertIn(name, bad)
        for value in bad[name]:
            named = dict(good)
            named[name] = value
            told = ("NotUsable", name, -1)
            case.assertEqual(raised(call, **named), told, (call, name, value))
            case.assertEqual(raised(call, *named.values()), told, (call, name, value))
    for one, other in itertools.combinations(names, 2):
        # Values that are wrong whatever the others are stand first in each list.
        named = dict(good)
        named[one] = bad[one][0]
        named[other] = bad[other][0]
        told = ("NotUsable", one, -1)
        case.assertEqual(raised(call, **named), told, (call, one, other))
        case.assertEqual(raised(call, *named.values()), told, (call, one, other))


def same_kinds(one, other):
    """Whether the values are equal and of the same kinds, element by element."""
    if type(one) is not type(other):
        return False
    if isinstance(one, (tuple, list)):
        return len(one) == len(other) and all(same_kinds(left, right) for left, right in zip(one, other))
    return one == other


class Nodes:
    """The nodes of a shape, told apart from the program: lists by node, and the nodes of the queues."""

    def __init__(self, form):
        self.shapes = []
        self.above = []
        self.kids = []
        self.held = []
        self.leaves = []
        self.walk(form, ())

    def walk(self, form, above):
        node = len(self.shapes)
        self.shapes.append(form)
        self.above.append(above)
        self.kids.append([])
        self.held.append([])
        if form == ():
            for top in above + (node,):
                self.held[top].append(len(self.leaves))
            self.leaves.append(node)
        for kid in form:
            self.kids[node].append(len(self.shapes))
            self.walk(kid, above + (node,))

    def path(self, queue):
        return self.above[self.leaves[queue]] + (self.leaves[queue],)

    def forks(self):
        return [node for node, kids in enumerate(self.kids) if kids]

    def meet(self, queues):
        return max(node for node, held in enumerate(self.held) if set(queues) <= set(held))


def plain_shapes(many):
    """All plain shapes with that many queues, turned or not."""
    if many == 1:
        return [()]
    found = []
    for parts in range(2, min(6, many) + 1):
        for sizes in itertools.product(range(1, many), repeat=parts):
            if sum(sizes) == many:
                found.extend(itertools.product(*[plain_shapes(size) for size in sizes]))
    return found


def random_shape(chance, many, plain, deep=9):
    """A shape with that many queues; unless it is to be plain, some forks have one child."""
    if not plain and deep > 0 and chance.random() < 0.15:
        return (random_shape(chance, many, plain, deep - 1),)
    if many == 1:
        return ()
    parts = 2 if deep <= 0 else chance.randint(2, min(6, many))
    cuts = sorted(chance.sample(range(1, many), parts - 1))
    sizes = [high - low for low, high in zip([0] + cuts, cuts + [many])]
    return tuple(random_shape(chance, size, plain, deep - 1) for size in sizes)


def sample_shapes(many=40, plain=False, queues=8, seed=7):
    """The same samples each time."""
    chance = random.Random(seed)
    named = [(), TWO, PAIRS, COMB, FLAT, THREE, SIX]
    if not plain:
        named = named + [((),), (((),),), LONG, ((), ((),), ()), ((SIX,),)]
    return named + [random_shape(chance, chance.randint(1, queues), plain) for _ in range(many)]


def random_ranks(chance, length, spread=3, bare=True):
    """Ranks for a path of this length; with ties, and with () among them if bare."""
    low = 0 if bare else 1
    return tuple(
        tuple(chance.randint(-spread, spread) for _ in range(chance.randint(low, 2))) for _ in range(length)
    )


def fill(standing, chance, pushes, spread=3, bare=True, leaves=0.2):
    """Pushes packets with such ranks, and lets some depart in between."""
    nodes = Nodes(standing.form_of())
    for number in range(pushes):
        queue = chance.randrange(len(nodes.leaves))
        standing.push(number, queue, random_ranks(chance, len(nodes.path(queue)), spread, bare))
        if chance.random() < leaves:
            standing.depart()
    return standing


def listed_layings(plain, chip):
    """All layings, ascending, by the words of the definition."""
    small, large = Nodes(plain), Nodes(chip)
    found = []
    for images in itertools.permutations(range(len(large.leaves)), len(small.leaves)):
        if all(
            {image for image in images if image in large.held[large.meet([images[q] for q in small.held[fork]])]}
            == {images[q] for q in small.held[fork]}
            for fork in small.forks()
        ):
            found.append(images)
    return found


def is_refused(error, word):
    return isinstance(error, NotUsable) and (error.word, error.at) == (word, -1)


NOT_PLANS = [None, True, 0, "", (), [], (TWO, LONG, (1, 0)), TWO]
NOT_PACKETS = NOT_NUMBERS + [2 ** 60, 2 ** 70]
NOT_IMAGES = [None, True, 0, "", [], (), (0,), (0, 1, 2), [0, 1], (0, 0), (0, 9), (-1, 0), (True, 0), (0, False),
              (0, None), ("0", 1), ((0,), 1), ([0], 1)]


def sample_plans(many=40, seed=5, most=7, more=4, wide=12):
    """Plans on chips with more queues than the plain shape, some forks of them with one child."""
    chance = random.Random(seed)
    plans = [Plan((), (), (0,)), Plan((), LONG, (2,)), Plan((), ((((),),),), (0,)), Plan(TWO, LONG, (1, 0)),
             Plan(TWO, ((((), ()),),), (1, 0)), Plan(FLAT, PAIRS, (3, 1, 0, 2)), Plan(FLAT, COMB, (0, 3, 2, 1)),
             Plan(THREE, ((((((), ()),),), ()),), (1, 0, 2)), Plan(THREE, COMB, (0, 1, 3)),
             Plan(SIX, (((), ()), ((((), ()),), ((), ()))), (5, 0, 4, 1, 3, 2))]
    while len(plans) < many:
        plain = random_shape(chance, chance.randint(1, most), True)
        chip = random_shape(chance, min(wide, len(Nodes(plain).leaves) + chance.randint(0, more)), False, 6)
        total = count_layings(plain, chip)
        if total:
            plans.append(Plan(plain, chip, nth_laying(plain, chip, chance.randrange(total))))
    return plans


def meet_depth(nodes, one, other):
    """The depth of the meet of two queues."""
    return len(nodes.above[nodes.meet([one, other])])
