import random
import unittest
from fractions import Fraction

from onenumber.amounts import compare, fraction, is_fraction, minus, over, plus, times
from onenumber.errors import BadFraction
from tests.values import ODD, as_amount, as_fraction, nested, random_fraction

TWO_PLACE = (plus, minus, times, over, compare)
WRONG = [
    None, True, False, 0, 1, "1/2", "", (), (1,), (1, 2, 3), [1, 2], {1: 2}, (2, 4), (-2, 4), (0, 2), (0, -1), (1, 0),
    (0, 0), (1, -2), (-1, -2), (True, 1), (True, 2), (1, True), (False, 1), ("1", 2), (1, "2"), (None, 1), (1, None),
    ((1, 2), (1, 2)), ([1], 2), (10 ** 40, 10 ** 40), nested(tuple, 200), nested(list, 200), nested(dict, 200),
]
RIGHT = [(0, 1), (1, 1), (-1, 1), (1, 2), (-1, 2), (7, 1), (10 ** 40, 3), (-3, 10 ** 4999), (10 ** 12 - 1, 10 ** 12)]


class IsFraction(unittest.TestCase):
    def test_right_and_wrong(self):
        for value in RIGHT:
            self.assertIs(is_fraction(value), True)
        for value in WRONG:
            self.assertIs(is_fraction(value), False)

    def test_any_value(self):
        for value in ODD:
            self.assertIn(is_fraction(value), (True, False))


class MakingFractions(unittest.TestCase):
    def test_lowest_terms(self):
        self.assertEqual(fraction(6, -4), (-3, 2))
        self.assertEqual(fraction(-6, -4), (3, 2))
        self.assertEqual(fraction(0, 7), (0, 1))
        self.assertEqual(fraction(0, -7), (0, 1))
        self.assertEqual(fraction(5, 1), (5, 1))
        self.assertEqual(fraction(-5, 5), (-1, 1))
        self.assertIsInstance(fraction(4, 2), tuple)

    def test_like_python_fractions(self):
        source = random.Random(1)
        for _ in range(500):
            top, bottom = source.randint(-40, 40), source.choice([-1, 1]) * source.randint(1, 40)
            made = fraction(top, bottom)
            self.assertEqual(made, as_amount(Fraction(top, bottom)))
            self.assertIs(is_fraction(made), True)

    def raises(self, value, top, bottom):
        with self.assertRaises(BadFraction) as caught:
            fraction(top, bottom)
        self.assertIs(caught.exception.value, value)

    def test_errors_in_sequence(self):
        listed = [1]
        self.raises(listed, listed, 0)
        self.raises(listed, listed, None)
        self.raises(listed, 1, listed)
        self.raises(0, 1, 0)
        self.raises(0, 0, 0)
        self.raises(True, True, False)
        self.raises(False, 2, False)
        self.raises("1", "1", "2")
        self.raises(None, 3, None)

    def test_any_value(self):
        for value in ODD:
            if not isinstance(value, int) or isinstance(value, bool):
                self.raises(value, value, 0)
                self.raises(value, 1, value)


class Arithmetic(unittest.TestCase):
    def test_like_python_fractions(self):
        source = random.Random(2)
        for _ in range(800):
            one, other = random_fraction(source, 12), random_fraction(source, 12)
            first, second = as_fraction(one), as_fraction(other)
            self.assertEqual(plus(one, other), as_amount(first + second))
            self.assertEqual(minus(one, other), as_amount(first - second))
            self.assertEqual(times(one, other), as_amount(first * second))
            self.assertEqual(compare(one, other), (first > second) - (first < second))
            if second:
                self.assertEqual(over(one, other), as_amount(first / second))

    def test_results_are_fractions(self):
        self.assertEqual(plus((1, 2), (-1, 2)), (0, 1))
        self.assertEqual(minus((1, 2), (1, 2)), (0, 1))
        self.assertEqual(times((0, 1), (-5, 3)), (0, 1))
        self.assertEqual(over((0, 1), (-5, 3)), (0, 1))
        self.assertEqual(over((1, 1), (-5, 3)), (-3, 5))
        self.assertEqual(times((10 ** 12 - 1, 10 ** 12), (10 ** 12, 10 ** 12 - 1)), (1, 1))

    def test_compare(self):
        self.assertEqual([compare((1, 3), (2, 7)), compare((2, 7), (1, 3)), compare((1, 3), (1, 3))], [1, -1, 0])
        self.assertEqual([compare((-1, 3), (-2, 7)), compare((-1, 2), (0, 1)), compare((1, 2), (0, 1))], [-1, -1, 1])
        self.assertIs(compare((1, 2), (1, 2)) is False, False)

    def test_errors_in_sequence(self):
        for function in TWO_PLACE:
            for value in WRONG:
                for one, other in ((value, (1, 2)), ((1, 2), value), (value, "second"), (value, (0, 1))):
                    with self.assertRaises(BadFraction) as caught:
                        function(one, other)
                    self.assertIs(caught.exception.value, value)

    def test_over_nothing(self):
        nothing = (0, 1)
        for one in RIGHT:
            with self.assertRaises(BadFraction) as caught:
                over(one, nothing)
            self.assertIs(caught.exception.value, nothing)

    def test_any_value(self):
        for value in ODD:
            if not is_fraction(value):
                for function in TWO_PLACE:
                    with self.assertRaises(BadFraction) as caught:
                        function((1, 2), value)
                    self.assertIs(caught.exception.value, value)


if __name__ == "__main__":
    unittest.main()
