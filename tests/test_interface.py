"""The interface: each name stands in its file, takes its parameters, and is of its kind."""

import importlib
import inspect
import unittest

from owncontraries.desk import Desk, Trial
from owncontraries.rooms import Room

FUNCTIONS = {
    "basics": {
        "is_integer": ["value"],
        "is_count": ["value"],
        "is_list": ["value"],
    },
    "words": {
        "is_word": ["places", "value"],
        "weight": ["word"],
        "are_even": ["word", "other"],
        "places_of": ["word"],
        "word_of": ["spots"],
    },
    "mixes": {
        "sum_room": ["room", "other"],
        "common_room": ["room", "other"],
        "lies_in": ["room", "other"],
        "beside": ["room", "other"],
        "shortened": ["room", "word"],
        "cut": ["room", "word"],
        "exchanged": ["room", "sequence"],
    },
    "contraries": {
        "contrary": ["room"],
        "is_still": ["room"],
        "is_own": ["room"],
        "why_not_own": ["room"],
        "is_why_not_own": ["room", "value"],
    },
    "fills": {
        "filled": ["room"],
        "fill_count": ["room"],
        "fills": ["room"],
    },
    "weights": {
        "row": ["room"],
        "least": ["room"],
        "least_words": ["room"],
    },
    "tables": {
        "is_row": ["value"],
        "entry": ["places", "first", "second"],
        "changed": ["row"],
        "is_own_row": ["row"],
    },
    "moments": {
        "moment": ["row", "power"],
        "walks": ["places", "weight", "power"],
    },
    "neighbours": {
        "neighbour": ["room", "word"],
        "are_neighbours": ["room", "other"],
        "neighbours": ["room"],
    },
    "chains": {
        "distance": ["room", "other"],
        "chain": ["room", "other"],
        "is_chain": ["room", "other", "value"],
        "same_family": ["room", "other"],
    },
    "fours": {
        "is_by_fours": ["room"],
        "why_not_fours": ["room"],
        "fours_half": ["room"],
        "fours_filled": ["room"],
        "fours_count": ["room"],
        "fours_fills": ["room"],
    },
    "shadows": {
        "shadow_word": ["room"],
        "is_shadow_word": ["room", "value"],
        "shadow_row": ["room"],
        "beside_two": ["room"],
    },
    "sums": {
        "sums": ["numbers"],
        "row_of": ["places", "numbers"],
        "fours_sums": ["numbers"],
        "fours_row_of": ["places", "numbers"],
    },
    "limits": {
        "shadow_of": ["places", "numbers"],
        "limit": ["places"],
        "fours_limit": ["places"],
        "greatest": ["places"],
        "fours_greatest": ["places"],
        "can_be": ["numbers"],
    },
    "parts": {
        "parts": ["room"],
        "part_room": ["room", "spots"],
    },
    "kinds": {
        "pairs": ["room"],
        "fours_kinds": ["room"],
    },
    "alike": {
        "alike": ["room", "other"],
        "is_alike": ["room", "other", "value"],
        "own_exchanges": ["room"],
    },
    "numbers": {
        "own_number": ["places"],
        "fours_number": ["places"],
    },
    "told": {
        "told_kinds": ["places"],
        "kind_of": ["room"],
        "lacking": ["rooms"],
    },
    "halves": {
        "vectors": ["room", "size"],
        "vector_row": ["room", "most"],
        "is_vector": ["room", "value"],
    },
    "texts": {
        "sorts": [],
        "is_of": ["sort", "value"],
        "written": ["sort", "value"],
    },
    "readers": {
        "read": ["text"],
    },
    "claims": {
        "words": [],
        "is_claim": ["value"],
        "is_true": ["claim"],
        "contrary_claim": ["claim"],
        "paper_of": ["claim"],
        "is_paper_of": ["claim", "value"],
    },
    "commands": {
        "is_name": ["value"],
        "is_command": ["value"],
        "is_deed": ["value"],
    },
    "desk": {
        "tried": ["desk", "action"],
    },
}

# the constructor's parameters, the properties, and the methods with their parameters
CLASSES = {
    "rooms": {
        "Room": (["places", "words"], ["places", "dimension"], {"basis": [], "has": ["word"], "words": []}),
    },
    "desk": {
        "Desk": (
            [],
            ["names", "labels"],
            {
                "claim_of": ["label"], "do": ["command"], "__call__": ["command"], "attach": ["label", "paper"],
                "fits": ["label"], "lines": [], "copy": [],
            },
        ),
        "Trial": (["desk"], [], {"__enter__": []}),
    },
}


def listed(table):
    return [
        (importlib.import_module("owncontraries." + file), name, told)
        for file, names in table.items()
        for name, told in names.items()
    ]


def parameters(function):
    return list(inspect.signature(function).parameters.values())


class TestInterface(unittest.TestCase):
    def check_parameters(self, found, wanted):
        self.assertEqual([parameter.name for parameter in found], wanted)
        for parameter in found:
            self.assertEqual(parameter.kind, inspect.Parameter.POSITIONAL_OR_KEYWORD)
            self.assertIs(parameter.default, inspect.Parameter.empty)

    def test_functions(self):
        for module, name, wanted in listed(FUNCTIONS):
            with self.subTest(name):
                function = getattr(module, name)
                self.assertTrue(inspect.isfunction(function))
                self.assertEqual(function.__module__, module.__name__)
                self.check_parameters(parameters(function), wanted)

    def test_classes(self):
        for module, name, (wanted, properties, methods) in listed(CLASSES):
            with self.subTest(name):
                listed_class = getattr(module, name)
                self.assertTrue(inspect.isclass(listed_class))
                self.assertEqual(listed_class.__module__, module.__name__)
                self.check_parameters(parameters(listed_class), wanted)
                own = vars(listed_class)
                for part in properties:
                    self.assertIsInstance(own[part], property)
                for method, taken in methods.items():
                    self.assertTrue(inspect.isfunction(own[method]))
                    self.check_parameters(parameters(own[method])[1:], taken)

    def test_equality_and_repr_stand_in_the_class_itself(self):
        for method in ["__init__", "__eq__", "__repr__"]:
            self.assertIn(method, vars(Room))

    def test_all_of_a_desk_stands_in_the_class_itself(self):
        for method in ["__init__", "__len__", "__getitem__", "__contains__", "do_all", "attempt", "again"]:
            self.assertIn(method, vars(Desk))
        self.assertIsInstance(vars(Desk)["again"], classmethod)
        self.check_parameters(parameters(Desk.again), ["lines"])
        for method in ["do_all", "attempt"]:
            found = parameters(vars(Desk)[method])[1:]
            self.assertEqual([parameter.name for parameter in found], ["commands"])
            self.assertEqual(found[0].kind, inspect.Parameter.VAR_POSITIONAL)
        for method in ["__init__", "__enter__", "__exit__"]:
            self.assertIn(method, vars(Trial))


if __name__ == "__main__":
    unittest.main()
