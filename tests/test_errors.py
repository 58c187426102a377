"""The errors: families, fields, how they are constructed."""

import unittest

from nextbough import errors

FAMILIES = {
    "PaperError": {"InvalidPaper": ("word", "at")},
    "ShapeError": {"NotUsable": ("word", "at"), "NoLaying": (), "Unwritten": ("node",), "NoGap": ("node",)},
    "PolicyError": {"TooGreat": ("name",), "NotMeltable": ("kind", "node")},
    "SwitchError": {"Taken": ("place",), "Vacant": ("place",), "Busy": ("place",), "FullRoom": ("place",),
                    "TooLittle": ("room",)},
    "TextError": {"InvalidText": ("at",), "InvalidPolicy": ("line", "word"), "InvalidCommand": ("line", "word")},
}
ALL = [(family, name, fields) for family, rows in FAMILIES.items() for name, fields in rows.items()]


class ErrorsTest(unittest.TestCase):
    def test_families(self):
        self.assertEqual(errors.BoughError.__bases__, (ValueError,))
        for family in FAMILIES:
            self.assertEqual(getattr(errors, family).__bases__, (errors.BoughError,))

    def test_each_error_stands_in_its_family(self):
        for family, name, _ in ALL:
            kind = getattr(errors, name)
            self.assertEqual(kind.__bases__, (getattr(errors, family),))
            self.assertEqual(kind.__module__, "nextbough.errors")

    def test_fields_by_position_and_by_name(self):
        held = [["a list"], object()]
        for _, name, fields in ALL:
            kind = getattr(errors, name)
            values = held[: len(fields)]
            named = dict(zip(fields, values))
            for made in (kind(*values), kind(**named)):
                self.assertEqual(list(vars(made)), list(fields))
                for field, value in named.items():
                    self.assertIs(getattr(made, field), value)

    def test_exactly_these_fields(self):
        for _, name, fields in ALL:
            kind = getattr(errors, name)
            with self.assertRaises(TypeError):
                kind(*([1] * (len(fields) + 1)))
            with self.assertRaises(TypeError):
                kind(**dict({field: 1 for field in fields}, more=1))
            if fields:
                with self.assertRaises(TypeError):
                    kind(*([1] * (len(fields) - 1)))

    def test_they_are_raised_and_caught(self):
        for family, name, fields in ALL:
            for kind in (name, family, "BoughError"):
                with self.assertRaises(getattr(errors, kind)):
                    raise getattr(errors, name)(*fields)


if __name__ == "__main__":
    unittest.main()
