import random
import unittest
from fractions import Fraction

from onenumber.amounts import (
    compare,
    fraction,
    greatest,
    is_below,
    is_fraction,
    least,
    minus,
    over,
    plus,
    simplest_between,
    times,
)
from onenumber.errors import BadFraction
from tests.values import ODD, as_amount, as_fraction, nested, random_fraction

TWO_PLACE = (plus, minus, times, over, compare)
WRONG = [
    None, True, False, 0, 1, "1/2", "", (), (1,), (1, 2, 3), [1, 2], {1: 2}, (2, 4), (-2, 4), (0, 2), (0, -1), (1, 0),
    (0, 0), (1, -2), (-1, -2), (True, 1), (True, 2), (1, True), (False, 1), ("1", 2), (1, "2"), (None, 1), (1, None),
    ((1, 2), (1, 2)), ([1], 2), (10 ** 40, 10 ** 40), nested(tuple, 200), nested(list, 200), nested(dict, 200),
]
RIGHT = [(0, 1), (1, 1), (-1, 1), (1, 2), (-1, 2), (7, 1), (10 ** 40, 3), (-3, 10 ** 4999), (10 ** 12 - 1, 10 ** 12)]


class IsFraction(unittest.TestCase):
    def test_right_and_wrong(self):
        for value in RIGHT:
            self.assertIs(is_fraction(value), True)
        for value in WRONG:
            self.assertIs(is_fraction(value), False)

    def test_any_value(self):
        for value in ODD:
            self.assertIn(is_fraction(value), (True, False))


class MakingFractions(unittest.TestCase):
    def test_lowest_terms(self):
        self.assertEqual(fraction(6, -4), (-3, 2))
        self.assertEqual(fraction(-6, -4), (3, 2))
        self.assertEqual(fraction(0, 7), (0, 1))
        self.assertEqual(fraction(0, -7), (0, 1))
        self.assertEqual(fraction(5, 1), (5, 1))
        self.assertEqual(fraction(-5, 5), (-1, 1))
        self.assertIsInstance(fraction(4, 2), tuple)

    def test_like_python_fractions(self):
        source = random.Random(1)
        for _ in range(500):
            top, bottom = source.randint(-40, 40), source.choice([-1, 1]) * source.randint(1, 40)
            made = fraction(top, bottom)
            self.assertEqual(made, as_amount(Fraction(top, bottom)))
            self.assertIs(is_fraction(made), True)

    def raises(self, value, top, bottom):
        with self.assertRaises(BadFraction) as caught:
            fraction(top, bottom)
        self.assertIs(caught.exception.value, value)

    def test_errors_in_sequence(self):
        listed = [1]
        self.raises(listed, listed, 0)
        self.raises(listed, listed, None)
        self.raises(listed, 1, listed)
        self.raises(0, 1, 0)
        self.raises(0, 0, 0)
        self.raises(True, True, False)
        self.raises(False, 2, False)
        self.raises("1", "1", "2")
        self.raises(None, 3, None)

    def test_any_value(self):
        for value in ODD:
            if not isinstance(value, int) or isinstance(value, bool):
                self.raises(value, value, 0)
                self.raises(value, 1, value)


class Arithmetic(unittest.TestCase):
    def test_like_python_fractions(self):
        source = random.Random(2)
        for _ in range(800):
            one, other = random_fraction(source, 12), random_fraction(source, 12)
            first, second = as_fraction(one), as_fraction(other)
            self.assertEqual(plus(one, other), as_amount(first + second))
            self.assertEqual(minus(one, other), as_amount(first - second))
            self.assertEqual(times(one, other), as_amount(first * second))
            self.assertEqual(compare(one, other), (first > second) - (first < second))
            if second:
                self.assertEqual(over(one, other), as_amount(first / second))

    def test_results_are_fractions(self):
        self.assertEqual(plus((1, 2), (-1, 2)), (0, 1))
        self.assertEqual(minus((1, 2), (1, 2)), (0, 1))
        self.assertEqual(times((0, 1), (-5, 3)), (0, 1))
        self.assertEqual(over((0, 1), (-5, 3)), (0, 1))
        self.assertEqual(over((1, 1), (-5, 3)), (-3, 5))
        self.assertEqual(times((10 ** 12 - 1, 10 ** 12), (10 ** 12, 10 ** 12 - 1)), (1, 1))

    def test_compare(self):
        self.assertEqual([compare((1, 3), (2, 7)), compare((2, 7), (1, 3)), compare((1, 3), (1, 3))], [1, -1, 0])
        self.assertEqual([compare((-1, 3), (-2, 7)), compare((-1, 2), (0, 1)), compare((1, 2), (0, 1))], [-1, -1, 1])
        self.assertIs(compare((1, 2), (1, 2)) is False, False)

    def test_errors_in_sequence(self):
        for function in TWO_PLACE:
            for value in WRONG:
                for one, other in ((value, (1, 2)), ((1, 2), value), (value, "second"), (value, (0, 1))):
                    with self.assertRaises(BadFraction) as caught:
                        function(one, other)
                    self.assertIs(caught.exception.value, value)

    def test_over_nothing(self):
        nothing = (0, 1)
        for one in RIGHT:
            with self.assertRaises(BadFraction) as caught:
                over(one, nothing)
            self.assertIs(caught.exception.value, nothing)

    def test_any_value(self):
        for value in ODD:
            if not is_fraction(value):
                for function in TWO_PLACE:
                    with self.assertRaises(BadFraction) as caught:
                        function((1, 2), value)
                    self.assertIs(caught.exception.value, value)


class Between(unittest.TestCase):
    def test_greatest_and_least(self):
        source = random.Random(15)
        for _ in range(100):
            amounts = [random_fraction(source, 5) for _ in range(source.randint(1, 6))]
            values = [as_fraction(amount) for amount in amounts]
            self.assertEqual((greatest(amounts), least(amounts)), (as_amount(max(values)), as_amount(min(values))))
            self.assertIs(is_below(amounts[0], amounts[-1]), values[0] < values[-1])

    def test_the_simplest_one(self):
        source = random.Random(16)
        for _ in range(500):
            low, high = sorted([Fraction(source.randint(-30, 30), source.randint(1, 20)) for _ in range(2)])
            if low < high:
                bottom = 1
                while True:
                    tops = range(-30 * bottom, 30 * bottom + 1)
                    inside = [Fraction(top, bottom) for top in tops if low < Fraction(top, bottom) < high]
                    if inside:
                        break
                    bottom += 1
                self.assertEqual(simplest_between(as_amount(low), as_amount(high)), as_amount(min(inside, key=abs)))

    def test_without_bounds(self):
        for low, high, right in ((None, None, (0, 1)), (None, (1, 2), (0, 1)), (None, (0, 1), (-1, 1)),
                                 (None, (-7, 2), (-4, 1)), ((-1, 2), None, (0, 1)), ((0, 1), None, (1, 1)),
                                 ((7, 2), None, (4, 1)), ((3, 1), None, (4, 1)), ((-1, 2), (1, 2), (0, 1))):
            self.assertEqual(simplest_between(low, high), right, (low, high))

    def test_few_digits_between_long_ones(self):
        low, high = (3 ** 2000, 2 ** 3100), (3 ** 2000 + 1, 2 ** 3100)
        found = simplest_between(low, high)
        self.assertTrue(as_fraction(low) < as_fraction(found) < as_fraction(high))
        self.assertLess(len(str(found[1])), 500)


if __name__ == "__main__":
    unittest.main()
