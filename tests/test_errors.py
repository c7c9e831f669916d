"""The classes of errors.py: their bases, parameters and attributes."""

import unittest

from fourwalls import errors
from samples import any_values

GIVEN = [
    "InvalidFaces", "InvalidCutters", "InvalidRoom", "InvalidCutter", "InvalidFace", "InvalidString", "InvalidView",
    "InvalidSign", "InvalidAddress", "InvalidPlace", "InvalidModulus", "InvalidRest", "InvalidNumber", "InvalidRatio",
    "InvalidLimit", "NotUnited",
]
AT = ["InvalidLine", "InvalidStep", "InvalidTable", "InvalidBad", "InvalidPlan"]
PARAMETERS = {
    "HouseError": {
        **{name: ["given"] for name in GIVEN}, **{name: ["at"] for name in AT},
        "InvalidText": ["line"], "InvalidPage": ["line"],
        "InvalidPaper": [], "OtherFaces": [], "OtherCutters": [], "TooMany": ["most"], "Full": ["most"],
    },
    "Missing": {"UnknownState": ["state"], "UnknownRoom": ["at"]},
    "IndexError": {"NothingLeft": []},
}
CLASSES = [(base, name, names) for base, table in PARAMETERS.items() for name, names in table.items()]


def made(name, names, value=7):
    return getattr(errors, name)(*[value for _ in names])


class Bases(unittest.TestCase):
    def test_direct_base_classes(self):
        self.assertEqual(errors.HouseError.__bases__, (ValueError,))
        self.assertEqual(errors.Missing.__bases__, (LookupError,))
        for base, name, _ in CLASSES:
            self.assertEqual([one.__name__ for one in getattr(errors, name).__bases__], [base], name)

    def test_no_other_class_is_a_subclass_of_another_one(self):
        for _, name, _ in CLASSES:
            for _, other, _ in CLASSES:
                self.assertEqual(issubclass(getattr(errors, name), getattr(errors, other)), name == other)
        self.assertFalse(issubclass(errors.HouseError, errors.Missing))
        self.assertFalse(issubclass(errors.Missing, errors.HouseError))

    def test_there_are_just_these_classes(self):
        found = sorted(name for name, value in vars(errors).items() if isinstance(value, type))
        self.assertEqual(found, sorted(["HouseError", "Missing"] + [name for _, name, _ in CLASSES]))
        self.assertEqual(len(CLASSES), 31)

    def test_what_each_base_catches(self):
        catches = {
            "HouseError": (errors.HouseError, ValueError),
            "Missing": (errors.Missing, LookupError),
            "IndexError": (IndexError, LookupError),
        }
        bases = (errors.HouseError, errors.Missing, ValueError, LookupError, IndexError)
        for base, name, names in CLASSES:
            for caught in bases:
                try:
                    raise made(name, names)
                except caught:
                    self.assertIn(caught, catches[base], name)
                except Exception:
                    self.assertNotIn(caught, catches[base], name)


class Attributes(unittest.TestCase):
    def test_by_position_and_by_name_with_any_value(self):
        for _, name, names in CLASSES:
            for value in any_values():
                for error in (made(name, names, value), getattr(errors, name)(**{one: value for one in names})):
                    for one in names:
                        self.assertIs(getattr(error, one), value)

    def test_no_other_number_of_parameters(self):
        for _, name, names in CLASSES:
            with self.assertRaises(TypeError):
                made(name, names + ["more"])
            if names:
                with self.assertRaises(TypeError):
                    getattr(errors, name)()

    def test_code_is_the_name_of_the_class(self):
        for _, name, names in CLASSES:
            self.assertEqual(made(name, names).code, name)

    def test_the_two_bases_have_no_code(self):
        self.assertFalse(hasattr(errors.HouseError(), "code"))
        self.assertFalse(hasattr(errors.Missing(), "code"))


if __name__ == "__main__":
    unittest.main()
