import inspect
import unittest

from swapkinds import errors
from tests.samples import hall, values_of_all_kinds

GIVEN = {
    "WrongValue": ("InvalidText", "InvalidName", "InvalidKind", "InvalidMove", "InvalidNumber", "InvalidGrowth",
                   "InvalidFact", "InvalidOrder", "InvalidWish", "InvalidIndex", "NotYard", "NotFacts"),
    "WrongName": ("UnknownName",),
    "NotPossible": ("Unbalanced", "NotThere", "OtherKinds", "TooGreat"),
}
INDEX = {
    "WrongValue": ("InvalidKinds", "InvalidRows", "InvalidFacts", "InvalidPlan", "InvalidChanges", "InvalidWishes"),
    "WrongName": ("InUse",),
    "NotPossible": ("Broken",),
}
NOTHING = {"NotPossible": ("Impossible", "NothingToUndo")}
BASES = {"WrongValue": ValueError, "WrongName": LookupError, "NotPossible": ArithmeticError}


def classes_with(attribute):
    table = {"given": GIVEN, "index": INDEX, None: NOTHING}[attribute]
    return [(getattr(errors, name), getattr(errors, base)) for base, names in table.items() for name in names]


class Errors(unittest.TestCase):
    def test_attributes_by_position_and_by_name(self):
        for attribute in ("given", "index"):
            for shape, _ in classes_with(attribute):
                for value in values_of_all_kinds() + [hall(), 5, ("a", (1,)), 10 ** 40]:
                    for made in (shape(value), shape(**{attribute: value})):
                        self.assertIs(getattr(made, attribute), value, shape)
                        self.assertEqual(list(vars(made)), [attribute])

    def test_attributes_are_needed(self):
        for attribute in ("given", "index"):
            for shape, _ in classes_with(attribute):
                with self.assertRaises(TypeError):
                    shape()
                with self.assertRaises(TypeError):
                    shape(1, 2)

    def test_without_attributes(self):
        for shape, _ in classes_with(None):
            self.assertEqual(vars(shape()), {})
        for name in BASES:
            self.assertEqual(vars(getattr(errors, name)()), {})

    def test_one_base_class_each(self):
        for attribute in ("given", "index", None):
            for shape, base in classes_with(attribute):
                self.assertEqual(shape.__bases__, (base,))

    def test_python_s_class_above(self):
        for name, above in BASES.items():
            self.assertEqual(getattr(errors, name).__bases__, (above,))

    def test_caught_by_the_bases_only(self):
        everything = [shape for _, shape in inspect.getmembers(errors, inspect.isclass)]
        for attribute in ("given", "index", None):
            for shape, base in classes_with(attribute):
                above = [other for other in everything if issubclass(shape, other)]
                self.assertCountEqual(above, [shape, base])

    def test_no_other_classes(self):
        listed = [shape for attribute in ("given", "index", None) for shape, _ in classes_with(attribute)]
        listed += [getattr(errors, name) for name in BASES]
        self.assertCountEqual([shape for _, shape in inspect.getmembers(errors, inspect.isclass)], listed)
        self.assertEqual(len(listed), 30)

    def test_defined_in_their_file(self):
        for _, shape in inspect.getmembers(errors, inspect.isclass):
            self.assertEqual(shape.__module__, "swapkinds.errors")

    def test_raised_and_caught(self):
        with self.assertRaises(ValueError) as caught:
            raise errors.InvalidPlan(index=3)
        self.assertEqual(caught.exception.index, 3)
        with self.assertRaises(LookupError):
            raise errors.InUse(0)
        with self.assertRaises(ArithmeticError):
            raise errors.Impossible()


if __name__ == "__main__":
    unittest.main()
