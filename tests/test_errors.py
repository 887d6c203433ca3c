"""The errors: their bases, their attributes, how they are made."""

import inspect
import unittest

from owncontraries import errors
from tests.values import AT_LEAST_ZERO, BELOW_ZERO, NO_INTEGERS

BASES = {
    "WordError": ValueError,
    "MissingError": LookupError,
    "StateError": RuntimeError,
    "LimitError": ArithmeticError,
}

# as they stand in the document, with the names in parentheses behind them
CLASSES = {
    "WordError": {
        "InvalidNumbers": ["value"],
        "InvalidPlaces": ["value"],
        "InvalidRoom": ["value"],
        "InvalidRow": ["value"],
        "InvalidWord": ["value"],
        "InvalidAt": ["value"],
        "InvalidClaim": ["value"],
        "InvalidCommand": ["value"],
        "InvalidLines": ["position"],
        "InvalidPaper": ["value"],
        "InvalidPower": ["value"],
        "InvalidRooms": ["position"],
        "InvalidSequence": ["value"],
        "InvalidSize": ["value"],
        "InvalidSort": ["value"],
        "InvalidSpots": ["value"],
        "InvalidText": ["line"],
        "InvalidThing": ["value"],
        "InvalidWords": ["position"],
    },
    "MissingError": {
        "UnknownLabel": ["value"],
        "UnknownName": ["value"],
    },
    "StateError": {
        "UnlikePlaces": [],
        "NotStill": [],
        "NotOwn": [],
        "NotByFours": [],
        "NotEights": [],
        "ByFours": [],
        "CommandFailed": ["position"],
        "LabelTaken": ["label"],
        "NameTaken": ["name"],
        "NotWhole": ["position"],
        "NothingToRedo": [],
        "NothingToUndo": [],
        "OddWeight": [],
        "WordWithin": [],
        "WrongThing": ["name"],
    },
    "LimitError": {
        "TooMany": ["what", "limit"],
    },
}

ANY_VALUES = NO_INTEGERS + BELOW_ZERO + AT_LEAST_ZERO


def all_classes():
    return [
        (getattr(errors, name), getattr(errors, base), names)
        for base, classes in CLASSES.items()
        for name, names in classes.items()
    ]


class TestClasses(unittest.TestCase):
    def test_each_base_is_a_direct_subclass_of_the_one_in_front(self):
        for name, base in BASES.items():
            with self.subTest(name):
                self.assertEqual(getattr(errors, name).__bases__, (base,))

    def test_each_class_is_a_direct_subclass_of_the_one_in_front(self):
        for error, base, _ in all_classes():
            with self.subTest(error.__name__):
                self.assertEqual(error.__bases__, (base,))

    def test_each_class_is_defined_in_the_file(self):
        names = list(BASES) + [name for classes in CLASSES.values() for name in classes]
        self.assertEqual(len(names), 4 + 19 + 2 + 15 + 1)
        for name in names:
            with self.subTest(name):
                self.assertEqual(getattr(errors, name).__module__, "owncontraries.errors")
                self.assertEqual(getattr(errors, name).__name__, name)

    def test_the_file_has_no_other_classes(self):
        names = list(BASES) + [name for classes in CLASSES.values() for name in classes]
        found = [name for name, value in vars(errors).items() if inspect.isclass(value)]
        self.assertEqual(sorted(found), sorted(names))


class TestMade(unittest.TestCase):
    def test_parameters_have_the_names_of_the_attributes(self):
        for error, _, names in all_classes():
            with self.subTest(error.__name__):
                if names:
                    self.assertEqual(list(inspect.signature(error).parameters), names)

    def test_made_by_position_with_any_values(self):
        for error, _, names in all_classes():
            for value in ANY_VALUES:
                with self.subTest(error.__name__, value=value):
                    made = error(*[value for _ in names])
                    for name in names:
                        self.assertIs(getattr(made, name), value)

    def test_made_by_name_with_any_values(self):
        for error, _, names in all_classes():
            for value in ANY_VALUES:
                with self.subTest(error.__name__, value=value):
                    made = error(**{name: value for name in names})
                    for name in names:
                        self.assertIs(getattr(made, name), value)

    def test_attributes_are_not_mixed_up(self):
        for made in [errors.TooMany("names", 10), errors.TooMany(limit=10, what="names")]:
            self.assertEqual((made.what, made.limit), ("names", 10))

    def test_attributes_are_of_each_object(self):
        first, second = errors.InvalidWord(3), errors.InvalidWord(4)
        self.assertEqual((first.value, second.value), (3, 4))

    def test_too_few_and_too_many_values_are_refused(self):
        for error, _, names in all_classes():
            if not names:
                continue
            with self.subTest(error.__name__):
                with self.assertRaises(TypeError):
                    error(*names[1:])
                with self.assertRaises(TypeError):
                    error(*names, 1)

    def test_the_bases_are_made_without_values(self):
        for name, base in BASES.items():
            with self.subTest(name):
                self.assertIsInstance(getattr(errors, name)(), base)

    def test_raised_and_caught_by_its_own_class_and_by_each_above(self):
        for error, base, names in all_classes():
            for caught_as in [error, base, base.__bases__[0]]:
                with self.subTest(error.__name__, caught_as=caught_as.__name__):
                    with self.assertRaises(caught_as) as caught:
                        raise error(*names)
                    self.assertIs(caught.exception.__class__, error)
                    self.assertIsInstance(str(caught.exception), str)


if __name__ == "__main__":
    unittest.main()
