import unittest

from alltriangular import errors
from samples import odd_values

# [4]: each class is under one base class, and has the attributes that the interface lists.
UNDER = {
    "WrongValue": {
        "InvalidText": "given", "InvalidName": "given", "InvalidIndex": "given", "InvalidSize": "given",
        "InvalidTable": "given", "InvalidView": "given", "InvalidWish": "given", "NotLot": "given",
        "InvalidTables": "index", "InvalidWord": "index", "InvalidColumns": "index",
        "InvalidChanges": "index", "InvalidWishes": "index",
    },
    "WrongName": {"UnknownName": "given", "InUse": "index"},
    "NotPossible": {
        "NotTriangular": "given", "OtherSize": "given", "TooMany": "given",
        "NothingToUndo": None, "Broken": "index",
    },
}
PYTHONS = {"WrongValue": ValueError, "WrongName": LookupError, "NotPossible": ArithmeticError}


def all_classes():
    """All classes of the errors, by their names."""
    return {name: value for name, value in vars(errors).items() if isinstance(value, type)}


def listed():
    """Triples of the name of a base class, the name of a class under it, and the name of its attribute."""
    return [(base, name, UNDER[base][name]) for base in UNDER for name in UNDER[base]]


class ClassesTest(unittest.TestCase):
    def test_just_these(self):
        self.assertEqual(sorted(all_classes()), sorted(list(UNDER) + [name for _, name, _ in listed()]))

    def test_defined_in_this_file(self):
        for found in all_classes().values():
            self.assertEqual(found.__module__, "alltriangular.errors")

    def test_base_classes(self):
        for base, python in PYTHONS.items():
            self.assertEqual(all_classes()[base].__bases__, (python,))
        for base, name, _ in listed():
            self.assertEqual(all_classes()[name].__bases__, (all_classes()[base],))

    def test_no_other_class_of_the_package(self):
        for base, name, _ in listed():
            for other, found in all_classes().items():
                self.assertEqual(issubclass(all_classes()[name], found), other in (base, name), (name, other))
        for base in UNDER:
            for other, found in all_classes().items():
                self.assertEqual(issubclass(all_classes()[base], found), other == base, (base, other))


class MakingTest(unittest.TestCase):
    def values(self):
        return odd_values() + ["", "lot 1", (), (1, (2, [3])), "a\nb"]

    def test_by_position(self):
        for _, name, attribute in listed():
            if attribute is not None:
                for value in self.values():
                    error = all_classes()[name](value)
                    self.assertIs(getattr(error, attribute), value)
                    self.assertEqual(list(vars(error)), [attribute])

    def test_by_name(self):
        for _, name, attribute in listed():
            if attribute is not None:
                for value in self.values():
                    error = all_classes()[name](**{attribute: value})
                    self.assertIs(getattr(error, attribute), value)
                    self.assertEqual(list(vars(error)), [attribute])

    def test_without_attributes(self):
        for name in ["NothingToUndo"] + list(UNDER):
            self.assertEqual(vars(all_classes()[name]()), {})

    def test_other_arguments_are_not_taken(self):
        for _, name, attribute in listed():
            if attribute is not None:
                other = {"given": "index", "index": "given"}[attribute]
                for action in (lambda: all_classes()[name](), lambda: all_classes()[name](1, 2),
                               lambda: all_classes()[name](**{other: 1})):
                    self.assertRaises(TypeError, action)

    def test_made_in_the_class_itself(self):
        for _, name, attribute in listed():
            if attribute is not None:
                self.assertIn("__init__", vars(all_classes()[name]))

    def test_raised_and_caught(self):
        for base, name, attribute in listed():
            told = () if attribute is None else (7,)
            for kind in (all_classes()[name], all_classes()[base], PYTHONS[base]):
                with self.assertRaises(kind) as caught:
                    raise all_classes()[name](*told)
                self.assertIs(caught.exception.__class__, all_classes()[name])

    def test_two_errors_keep_their_own(self):
        first, second = errors.InvalidText("a"), errors.InvalidText("b")
        self.assertEqual((first.given, second.given), ("a", "b"))


if __name__ == "__main__":
    unittest.main()
