import inspect
import unittest

from whichstand import errors

FIELDS = {
    "BadTable": ("index",),
    "BadStands": (),
    "BadStand": (),
    "BadRow": ("index",),
    "BadAim": (),
    "BadSize": (),
    "BadLetter": (),
    "NoStand": (),
    "Full": (),
    "InvalidText": ("line", "word"),
    "BadSides": (),
    "BadCosts": (),
    "BadChange": (),
}


class ErrorsTest(unittest.TestCase):
    def test_base_is_a_value_error(self):
        self.assertEqual(errors.StandError.__bases__, (ValueError,))

    def test_all_thirteen_are_direct_subclasses(self):
        found = [
            name
            for name, kind in inspect.getmembers(errors, inspect.isclass)
            if kind is not errors.StandError
        ]
        self.assertEqual(sorted(found), sorted(FIELDS))
        for name in FIELDS:
            kind = getattr(errors, name)
            self.assertEqual(kind.__bases__, (errors.StandError,), name)
            self.assertEqual(kind.__module__, "whichstand.errors", name)

    def test_fields_are_set_when_an_error_is_created(self):
        for name, fields in FIELDS.items():
            values = [5 + at for at in range(len(fields))]
            error = getattr(errors, name)(*values)
            self.assertEqual(vars(error), dict(zip(fields, values)), name)

    def test_index_may_be_none(self):
        self.assertIsNone(errors.BadTable(None).index)
        self.assertIsNone(errors.BadRow(None).index)

    def test_fields_may_be_named(self):
        error = errors.InvalidText(line=2, word=3)
        self.assertEqual((error.line, error.word), (2, 3))
        self.assertEqual(errors.BadTable(index=4).index, 4)
        self.assertEqual(errors.BadRow(index=0).index, 0)

    def test_each_is_caught_as_a_stand_error(self):
        for name, fields in FIELDS.items():
            with self.assertRaises(errors.StandError):
                raise getattr(errors, name)(*[1 for _ in fields])


if __name__ == "__main__":
    unittest.main()
