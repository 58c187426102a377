"""[13] and [14]: shapes, how large they are, and their texts."""

import unittest

from nextbough.shapekinds import forks_above, is_plain, is_shape, nodes_of, queues_of
from nextbough.shapetexts import read_shape, shape_text
from support import (COMB, LONG, NOT_SHAPES, NOT_TEXTS, PAIRS, SIX, TWO, Nodes, check_refusals, raised,
                     sample_shapes)


class KindsTest(unittest.TestCase):
    def test_shapes(self):
        for form in sample_shapes(queues=24):
            self.assertIs(is_shape(form), True)
            self.assertIs(is_plain(form), all(len(kids) != 1 for kids in Nodes(form).kids))
        for thing in NOT_SHAPES:
            self.assertIs(is_shape(thing), False, thing)
            self.assertIs(is_plain(thing), False, thing)

    def test_edges(self):
        self.assertIs(is_shape(()), True)
        self.assertIs(is_plain(()), True)
        self.assertEqual((is_shape(((),)), is_plain(((),))), (True, False))
        self.assertEqual((is_shape(SIX), is_plain(SIX)), (True, True))
        self.assertEqual((is_shape(SIX + ((),)), is_plain(SIX + ((),))), (False, False))
        self.assertEqual((is_plain(((), ((),))), is_plain(((), ((), ())))), (False, True))
        self.assertIs(is_shape(thing=TWO), True)
        self.assertIs(is_plain(thing=LONG), False)

    def test_beyond_the_limits_for_parameters(self):
        deep = ()
        for _ in range(29):
            deep = (deep,)
        wide = (((SIX,) * 6,) * 6,) * 3
        self.assertTrue(is_shape(deep))
        self.assertTrue(is_plain(wide))
        self.assertFalse(is_shape((wide, [])))

    def test_measures(self):
        self.assertEqual((is_plain(LONG), queues_of(LONG), nodes_of(LONG), forks_above(LONG)), (False, 3, 6, 3))
        self.assertEqual((queues_of(()), nodes_of(()), forks_above(())), (1, 1, 0))
        self.assertEqual((queues_of(((),)), nodes_of(((),)), forks_above(((),))), (1, 2, 1))
        for form in sample_shapes(queues=24):
            nodes = Nodes(form)
            self.assertEqual(queues_of(form), len(nodes.leaves))
            self.assertEqual(nodes_of(form), len(nodes.shapes))
            self.assertEqual(forks_above(form), max(len(nodes.above[leaf]) for leaf in nodes.leaves))
            for call in (queues_of, nodes_of, forks_above):
                self.assertIs(type(call(form)), int)

    def test_wrong_parameters(self):
        for call in (queues_of, nodes_of, forks_above, shape_text):
            check_refusals(self, call, {"form": TWO}, {"form": NOT_SHAPES})


class TextsTest(unittest.TestCase):
    def test_examples(self):
        self.assertEqual((shape_text(LONG), read_shape("(o)")), ("(((o o)) o)", ((),)))
        for text, at in (("", 0), ("()", 1), ("o o", 1), ("(o", 2), ("((o", 3), ("(o o o o o o ", 12)):
            self.assertEqual(raised(read_shape, text), ("InvalidText", at), text)

    def test_texts_are_read_back(self):
        self.assertEqual(shape_text(()), "o")
        self.assertEqual(shape_text(PAIRS), "((o o) (o o))")
        for form in sample_shapes(queues=24):
            text = shape_text(form)
            self.assertEqual(read_shape(text), form)
            self.assertEqual(text.count("o"), queues_of(form))
            self.assertEqual(text.count("("), len(Nodes(form).forks()))

    def test_beginnings_of_a_text_are_refused_at_their_end(self):
        text = "(((o o) (o)) o (o o o o o o))"
        self.assertEqual(shape_text(read_shape(text)), text)
        for at in range(len(text)):
            self.assertEqual(raised(read_shape, text[:at]), ("InvalidText", at))

    def test_refused_at_each_kind_of_place(self):
        rows = [
            (" o", 0), (")", 0), ("x", 0), ("O", 0), ("0", 0), ("\n", 0), ("( o)", 1), ("(x)", 1), ("(o  o)", 3),
            ("(o )", 3), ("(o,o)", 2), ("(oo)", 2), ("(o(o))", 2), ("(o o))", 5), ("(o o) ", 5), ("(o o)o", 5),
            ("oo", 1), ("o)", 1), ("o ", 1), ("(o o o o o o o)", 12), ("((o o) (o o o o o o o))", 19),
            ("((o) o", 6), ("(", 1), ("((", 2), ("(o ", 3), ("((o o)(o o))", 6), ("(((o)) o) (o)", 9), ("(o\n)", 2),
        ]
        for text, at in rows:
            self.assertEqual(raised(read_shape, text), ("InvalidText", at), text)
            self.assertEqual(raised(read_shape, text=text), ("InvalidText", at), text)

    def test_the_place_is_that_of_the_longest_right_beginning(self):
        # A beginning is right exactly if some closing makes a text of it.
        for text in ("(o (o o", "((((o", "(o o o o o o", "((o o o o o o) "):
            closings = ["", "o", ")", "o)", "))", "o))", ")))", "o)))", "))))"]
            self.assertTrue(any(raised(read_shape, text + closing) is None for closing in closings), text)

    def test_thirty_brackets(self):
        text = "(" * 30 + "o" + ")" * 30
        self.assertEqual(shape_text(read_shape(text)), text)
        self.assertEqual(raised(read_shape, "(" * 30 + ")"), ("InvalidText", 30))

    def test_wrong_parameters(self):
        check_refusals(self, read_shape, {"text": "o"}, {"text": NOT_TEXTS})
        self.assertEqual(read_shape(text="((o o) o)"), ((TWO), ()))
        self.assertEqual(shape_text(form=COMB), "(((o o) o) o)")


if __name__ == "__main__":
    unittest.main()
