"""Checks that several tests make."""

import copy
import itertools
import unittest


class Checks(unittest.TestCase):
    """Answers and errors of functions that are handed named values, in the sequence of their parameters."""

    def asked(self, function, **named):
        """The answer: the same by position, by name, by name the other way round and once more; nothing is changed."""
        before = repr(named)
        answer = function(*named.values())
        shown = repr(answer)
        turned = dict(reversed(list(named.items())))
        for again in [function(**named), function(**turned), function(*named.values())]:
            self.assertEqual(repr(again), shown)
            self.assertEqual(again, answer)
            if isinstance(answer, list):
                self.assertIsNot(again, answer)
        self.assertEqual(repr(named), before)
        return answer

    def truth(self, function, **named):
        """The answer, which is a bool."""
        answer = self.asked(function, **named)
        self.assertIsInstance(answer, bool)
        return answer

    def check_error(self, error, told, function, **named):
        """The function raises just this error, with these attributes, by position and by name."""
        before = repr(named)
        for call in [lambda: function(*named.values()), lambda: function(**named)]:
            with self.assertRaises(error) as caught:
                call()
            self.assertIs(type(caught.exception), error)
            self.assertEqual(vars(caught.exception), told)
            for name, value in told.items():
                self.assertIs(type(getattr(caught.exception, name)), type(value))
        self.assertEqual(repr(named), before)

    def check_wrong(self, function, good, wrong):
        """Wrong values of each parameter raise its error with them; the first parameter that is wrong decides.

        wrong tells for each parameter that has an error of its own the error and its wrong values.
        """
        for name, (error, values) in wrong.items():
            for value in values:
                named = dict(good)
                named[name] = value
                with self.subTest(function=function.__name__, parameter=name, value=repr(value)):
                    self.check_error(error, {"value": value}, function, **named)
        for first, second in itertools.combinations(wrong, 2):
            for value, other in zip(wrong[first][1], reversed(wrong[second][1])):
                named = dict(good)
                named[first] = value
                named[second] = other
                with self.subTest(function=function.__name__, first=first, second=second, value=repr(value)):
                    self.check_error(wrong[first][0], {"value": value}, function, **named)

    def check_new(self, function, *args):
        """What the function tells may be changed: it tells the same afterwards."""
        told = function(*args)
        kept = copy.deepcopy(told)
        told.append(1)
        told[0] = None
        self.assertEqual(function(*args), kept)
        del told[:]
        self.assertEqual(function(*args), kept)
