"""[82]: the policies of tenants, and standings in which one bough is exchanged."""

import random
import unittest

from nextbough.cutting import replaced_bough
from nextbough.disciplines import discipline_policy
from nextbough.exchanging import exchanged
from nextbough.freepolicies import free_policy
from nextbough.leaning import lean_policy
from nextbough.orders import order_of
from nextbough.policies import Policy
from nextbough.policytexts import read_policy
from nextbough.standings import Standing
from nextbough.tenants import tenant_policy
from support import (LONG, NOT_NUMBERS, NOT_SHAPES, NOT_STANDINGS, NOT_TEXTS, PAIRS, THREE, TWO, Nodes, check_refusals, fill,
                     random_discipline, random_shape, same_kinds, sample_shapes)

NOT_LEAN = [None, 0, 1, "", "lean", (), [], (True,)]
NOT_POLICY_TEXTS = NOT_TEXTS + ["", "root", "root q", "come", free_policy(TWO) + "\n", free_policy(TWO)[:-1], free_policy(TWO).replace("n0", "m0", 1)]


class TenantPolicyTest(unittest.TestCase):
    def test_whole_and_lean(self):
        chance = random.Random(301)
        shorter = 0
        for _ in range(25):
            text = discipline_policy(random_discipline(chance, chance.randint(1, 7)))
            whole, lean = tenant_policy(text, False), tenant_policy(text=text, lean=True)
            self.assertIsInstance(lean, Policy)
            self.assertTrue(same_kinds(whole.parts(), read_policy(text).parts()))
            self.assertTrue(same_kinds(lean.parts(), lean_policy(whole)[0].parts()))
            shorter += len(lean.names_of()) < len(whole.names_of())
        self.assertGreater(shorter, 3)

    def test_wrong_parameters(self):
        check_refusals(self, tenant_policy, {"text": free_policy(TWO), "lean": True}, {"text": NOT_POLICY_TEXTS, "lean": NOT_LEAN})


class ExchangedTest(unittest.TestCase):
    def test_by_the_words(self):
        chance = random.Random(302)
        for form in sample_shapes(40, queues=7):
            held = fill(Standing(form), chance, 14)
            nodes = Nodes(form)
            for node in range(len(nodes.shapes)):
                other = random_shape(chance, chance.randint(1, 4), chance.random() < 0.5)
                inner = Nodes(other)
                numbers = order_of(held, node)
                queues = tuple(chance.randrange(len(inner.leaves)) for _ in numbers)
                beside = Standing(other)
                for number, queue in zip(numbers, queues):
                    beside.push(number, queue, ((),) * len(inner.path(queue)))
                before = held.all_lines()
                told = exchanged(standing=held, node=node, form=other, queues=queues)
                end = node + len(Nodes(nodes.shapes[node]).shapes)
                self.assertEqual(told.form_of(), replaced_bough(form, node, other))
                self.assertEqual(told.all_lines(), before[:node] + beside.all_lines() + before[end:])
                self.assertEqual((told.order(), order_of(told, node)), (held.order(), numbers))
                self.assertEqual((held.all_lines(), told.present()), (before, held.present()))
                told.depart()
                self.assertEqual(held.all_lines(), before)

    def test_an_example(self):
        held = Standing(PAIRS)
        held.push(7, 2, ((3,), (1,), (2,)))
        held.push(8, 0, ((4,), (9,), (5,)))
        held.push(9, 3, ((5,), (0,), ()))
        told = exchanged(held, 4, THREE, (2, 0))
        self.assertEqual(told.all_lines(), (
            (((3,), 1), ((4,), 0), ((5,), 1)), (((9,), 0),), (((5,), 8),), (),
            (((), 1), ((), 0)), (((), 0),), (((), 7),), (), (((), 9),)))
        self.assertEqual(told.lies_at(7), 2)
        self.assertEqual(exchanged(Standing(()), 0, LONG, ()).all_lines(), ((),) * 6)
        self.assertEqual(exchanged(held, 0, (), (0, 0, 0)).all_lines(), ((((), 9), ((), 8), ((), 7)),))

    def test_wrong_parameters(self):
        held = Standing(PAIRS)
        held.push(7, 2, ((3,), (1,), (2,)))
        held.push(8, 0, ((4,), (9,), (5,)))
        queues = [None, True, 0, "", [], (), [1], (1, 1), (2,), (-1,), (True,), (None,), ("1",), (2 ** 70,)]
        check_refusals(self, exchanged, {"standing": held, "node": 4, "form": TWO, "queues": (1,)},
                       {"standing": NOT_STANDINGS, "node": NOT_NUMBERS + [7], "form": NOT_SHAPES, "queues": queues})


if __name__ == "__main__":
    unittest.main()
