import copy
import inspect
import pickle
import unittest

from onenumber import errors
from onenumber.errors import MixError
from tests.values import ODD

NAMES = """BadFraction BadPair BadPairs BadTerm BadMix BadPlace BadText BadLadder BadLadders NoFrame BadHabit
BadChoice BadCourse BadTerms NoFit NoCompany BadWays BadNumber BadForest BadOrder BadJoin BadRow BadTable BadBox
BadBoxes BadSeen BadProject BadShare BadYard BadPlan BadWorked BadGroup BadGroupOrder BadCondition BadStanding
BadValue BadFirst BadOutcome DayOver NoDeed BadMark BadLine NoDay TooMany""".split()


class Errors(unittest.TestCase):
    def test_bases(self):
        self.assertEqual(len(NAMES), 44)
        self.assertEqual(MixError.__bases__, (ValueError,))
        for name in NAMES:
            self.assertEqual(getattr(errors, name).__bases__, (MixError,), name)

    def test_they_keep_the_very_value(self):
        for name in NAMES:
            for value in (None, True, 0, "", [], [1, [2]], {"a": 1}, ("end",), 10 ** 9000, "x" * 50000):
                error = getattr(errors, name)(value)
                self.assertIs(error.value, value, name)
                self.assertIs(getattr(errors, name)(value=value).value, value, name)

    def test_values_of_all_kinds(self):
        for name in NAMES:
            for value in ODD:
                self.assertIs(getattr(errors, name)(value).value, value, name)

    def test_each_is_made_by_its_own_body(self):
        for name in ["MixError"] + NAMES:
            self.assertTrue(inspect.isfunction(vars(getattr(errors, name)).get("__init__")), name)
            self.assertEqual(list(inspect.signature(getattr(errors, name)).parameters), ["value"], name)
            self.assertEqual(getattr(errors, name).__module__, "onenumber.errors")

    def test_they_are_made_with_one_argument(self):
        for name in NAMES:
            self.assertRaises(TypeError, getattr(errors, name))
            self.assertRaises(TypeError, getattr(errors, name), 1, 2)

    def test_message_of_a_long_integer(self):
        # Python itself would refuse to write this one.
        self.assertIsInstance(str(errors.BadFraction(10 ** 9000)), str)
        self.assertIsInstance(repr(errors.BadFraction(10 ** 9000)), str)

    def test_copies_keep_the_value(self):
        error = errors.TooMany(64)
        self.assertEqual(copy.copy(error).value, 64)
        self.assertEqual(pickle.loads(pickle.dumps(error)).value, 64)

    def test_each_is_caught_alone(self):
        for name in NAMES:
            for other in NAMES:
                self.assertEqual(issubclass(getattr(errors, name), getattr(errors, other)), name == other)


if __name__ == "__main__":
    unittest.main()
