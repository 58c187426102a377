"""[16] and [17]: plain forms, turned forms, clans."""

import itertools
import random
import unittest

from nextbough.clans import clans_of, crossing_of, shape_of_clans
from nextbough.plainforms import plain_form, plain_nodes
from nextbough.shapekinds import is_plain, queues_of
from nextbough.shapetexts import shape_text
from nextbough.turnings import are_turns, turned_form
from support import (COMB, FLAT, LONG, NOT_COUNTS, NOT_SHAPES, PAIRS, SIX, THREE, TWO, Nodes, check_refusals,
                     plain_shapes, raised, sample_shapes)

CASES = sample_shapes(queues=14)


def turned_by_words(form):
    kids = [turned_by_words(kid) for kid in form]
    return tuple(sorted(kids, key=lambda kid: (queues_of(kid), shape_text(kid))))


def all_turns(form):
    """The shape with the children of its forks in all sequences."""
    found = set()
    for kids in itertools.permutations(form):
        found.update(itertools.product(*[all_turns(kid) for kid in kids]))
    return found or {()}


def crosses(one, other):
    return bool(set(one) & set(other) and set(one) - set(other) and set(other) - set(one))


class PlainFormsTest(unittest.TestCase):
    def test_examples(self):
        self.assertEqual((plain_form(LONG), plain_nodes(LONG)), ((((), ()), ()), (0, 2, 3, 4, 5)))
        self.assertEqual((plain_form(((((),),),)), plain_nodes(((((),),),))), ((), (3,)))
        self.assertEqual((plain_form(()), plain_nodes(())), ((), (0,)))

    def test_what_is_left_as_each_node(self):
        for form in CASES:
            plain = plain_form(form)
            self.assertTrue(is_plain(plain))
            left = plain_nodes(form)
            here, there = Nodes(form), Nodes(plain)
            self.assertEqual(left, tuple(n for n, kids in enumerate(here.kids) if len(kids) != 1))
            self.assertEqual(len(left), len(there.shapes))
            for place, node in enumerate(left):
                self.assertEqual(plain_form(here.shapes[node]), there.shapes[place])
                self.assertEqual(here.held[node], there.held[place])

    def test_a_plain_shape_stays(self):
        for form in sample_shapes(plain=True, queues=24):
            self.assertEqual(plain_form(form), form)
            self.assertEqual(plain_nodes(form), tuple(range(len(Nodes(form).shapes))))


class TurningsTest(unittest.TestCase):
    def test_examples(self):
        self.assertEqual((turned_form(COMB), are_turns(LONG, plain_form(LONG))), (((), ((), ((), ()))), False))

    def test_by_the_words(self):
        for form in CASES:
            turned = turned_form(form)
            self.assertEqual(turned, turned_by_words(form))
            self.assertEqual(turned_form(turned), turned)
            self.assertIs(are_turns(form, turned), True)

    def test_sorted_by_queues_and_then_by_text(self):
        # Three queues come behind two though "((o" is less than "(o".
        self.assertEqual(turned_form((((TWO, ()), TWO))), ((TWO), ((), TWO)))
        self.assertEqual(turned_form(((), ((),))), (((),), ()))
        self.assertEqual(turned_form((((), ((),)),)), ((((),), ()),))

    def test_turns_are_those_with_children_in_another_sequence(self):
        shapes = [form for many in range(1, 5) for form in plain_shapes(many)] + [LONG, ((), (((), ()),)), ((),)]
        for one in shapes:
            turns = all_turns(one)
            for other in shapes:
                self.assertIs(are_turns(one, other), other in turns)

    def test_wrong_parameters(self):
        for call in (plain_form, plain_nodes, turned_form, clans_of):
            check_refusals(self, call, {"form": TWO}, {"form": NOT_SHAPES})
        check_refusals(self, are_turns, {"one": TWO, "other": ()}, {"one": NOT_SHAPES, "other": NOT_SHAPES})


class ClansTest(unittest.TestCase):
    def test_examples(self):
        self.assertEqual(clans_of(COMB), ((0, 1), (0, 1, 2), (0, 1, 2, 3)))
        self.assertEqual(crossing_of(4, ((2, 3), (0, 1), (1, 2))), (0, 2))
        self.assertEqual(shape_of_clans(4, ((1, 3), (0, 2))), ((((), ()), ((), ())), (0, 2, 1, 3)))
        self.assertEqual((clans_of(()), clans_of(((),)), clans_of(((TWO,),))), ((), (), ((0, 1),)))

    def test_by_the_words(self):
        for form in CASES:
            nodes = Nodes(plain_form(form))
            self.assertEqual(clans_of(form), tuple(sorted(tuple(nodes.held[fork]) for fork in nodes.forks())))

    def test_crossing_rows(self):
        chance = random.Random(3)
        for _ in range(300):
            many = chance.randint(2, 7)
            rows = tuple(
                tuple(sorted(chance.sample(range(many), chance.randint(2, many)))) for _ in range(chance.randint(0, 4))
            )
            pairs = [pair for pair in itertools.combinations(range(len(rows)), 2)
                     if crosses(rows[pair[0]], rows[pair[1]])]
            least = pairs[0] if pairs else None
            self.assertEqual(crossing_of(many, rows), least)
            if least is not None:
                self.assertEqual(raised(shape_of_clans, many, rows), ("NotUsable", "rows", -1))

    def test_rows_that_do_not_cross(self):
        self.assertIsNone(crossing_of(5, ()))
        self.assertIsNone(crossing_of(5, ((0, 1), (0, 1), (0, 1, 2), (3, 4))))
        self.assertIsNone(crossing_of(24, tuple((low, low + 1) for low in range(0, 24, 2)) * 5))

    def check_made(self, many, rows):
        shape, row = shape_of_clans(many, rows)
        self.assertTrue(is_plain(shape))
        self.assertEqual(sorted(row), list(range(many)))
        nodes = Nodes(shape)
        named = [[row[queue] for queue in held] for held in nodes.held]
        clans = {tuple(sorted(named[fork])) for fork in nodes.forks()}
        self.assertEqual(clans, set(rows) | ({tuple(range(many))} if many > 1 else set()))
        for fork in nodes.forks():
            least = [min(named[kid]) for kid in nodes.kids[fork]]
            self.assertEqual(least, sorted(least))

    def test_made_of_the_clans_of_renamed_shapes(self):
        chance = random.Random(4)
        for form in CASES:
            many = queues_of(form)
            names = chance.sample(range(many), many)
            rows = [tuple(sorted(names[queue] for queue in clan)) for clan in clans_of(form)]
            chance.shuffle(rows)
            self.check_made(many, tuple(rows + rows[:1]))

    def test_edges(self):
        self.assertEqual(shape_of_clans(1, ()), ((), (0,)))
        self.assertEqual(shape_of_clans(2, ()), (TWO, (0, 1)))
        self.assertEqual(shape_of_clans(2, ((0, 1), (0, 1))), (TWO, (0, 1)))
        self.assertEqual(shape_of_clans(6, ()), (SIX, (0, 1, 2, 3, 4, 5)))
        self.assertEqual(raised(shape_of_clans, 7, ()), ("NotUsable", "rows", -1))
        self.assertEqual(shape_of_clans(7, ((2, 6),)), (((), (), TWO, (), (), ()), (0, 1, 2, 6, 3, 4, 5)))
        self.assertEqual(raised(shape_of_clans, 9, ((0, 8), (1, 2, 3, 4, 5, 6, 7))), ("NotUsable", "rows", -1))
        self.assertEqual(raised(shape_of_clans, 3, ((0, 1), (1, 2))), ("NotUsable", "rows", -1))
        self.assertEqual(raised(crossing_of, 7, ()), None)

    def test_wrong_parameters(self):
        not_rows = [None, True, 0, "", [], [(0, 1)], (0, 1), ((0,),), ((),), ((1, 0),), ((0, 0),), ((0, 1, 1),),
                    ([0, 1],), ((0, 4),), ((False, True),), ((0, True),), ((-1, 0),), ((0, 1), None), ((0, "1"),)]
        for call in (crossing_of, shape_of_clans):
            check_refusals(self, call, {"many": 4, "rows": ((0, 1), (2, 3))}, {"many": NOT_COUNTS, "rows": not_rows})
            self.assertEqual(raised(call, 1, ((0, 1),)), ("NotUsable", "rows", -1))
            self.assertEqual(raised(call, 0, ((0, 1), (1, 2))), ("NotUsable", "many", -1))


class ConsequencesTest(unittest.TestCase):
    def test_turns_are_renamings_of_clans(self):
        shapes = [form for many in range(1, 6) for form in plain_shapes(many)][:90]
        for one, other in itertools.product(shapes[::2], shapes[::3]):
            many = queues_of(one)
            renamed = queues_of(other) == many and any(
                {tuple(sorted(names[q] for q in clan)) for clan in clans_of(one)} == set(clans_of(other))
                for names in itertools.permutations(range(many))
            )
            self.assertIs(are_turns(one, other), renamed)

    def test_the_clans_make_the_plain_form(self):
        for form in CASES:
            many = queues_of(form)
            self.assertEqual(shape_of_clans(many, clans_of(form)), (plain_form(form), tuple(range(many))))
        for form in (THREE, FLAT, PAIRS):
            self.assertEqual(shape_of_clans(queues_of(form), clans_of(form))[0], form)


if __name__ == "__main__":
    unittest.main()
