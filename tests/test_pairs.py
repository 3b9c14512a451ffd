import random
import unittest

from onenumber.errors import BadFraction, BadPair
from onenumber.pairs import are_level, is_ahead, is_pair, spread, total
from tests.values import NOTHING, ODD, as_amount, as_fraction, as_numbers, nested, random_fraction, random_pair

GOOD, SLOW, JOIN = ((4, 1), (1, 2)), ((1, 1), (1, 2)), ((-1, 1), (-1, 1))
WRONG = [
    None, True, 1, "", (), ((1, 2),), ((1, 2), (1, 2), (1, 2)), [(1, 2), (1, 2)], ((1, 2), [1, 2]), ([1, 2], (1, 2)),
    (1, 2), ((1, 2), (2, 4)), ((2, 4), (1, 2)), ((1, 2), None), ((True, 1), (1, 2)), ((1, 2), (0, 2)),
    {(1, 2): (1, 2)}, nested(tuple, 200), ((1, 2), nested(tuple, 199)),
]


class IsPair(unittest.TestCase):
    def test_right_and_wrong(self):
        for value in (GOOD, SLOW, JOIN, NOTHING, ((-7, 3), (0, 1))):
            self.assertIs(is_pair(value), True)
        for value in WRONG:
            self.assertIs(is_pair(value), False)

    def test_any_value(self):
        for value in ODD:
            self.assertIn(is_pair(value), (True, False))


class Ahead(unittest.TestCase):
    def test_by_products(self):
        source = random.Random(3)
        for _ in range(1500):
            one, other = random_pair(source, 3), random_pair(source, 3)
            (a, b), (c, d) = as_numbers(one), as_numbers(other)
            self.assertIs(is_ahead(one, other), a * d > c * b)
            self.assertIs(are_level(one, other), a * d == c * b)

    def test_falls_of_all_signs(self):
        self.assertEqual([is_ahead(GOOD, SLOW), is_ahead(SLOW, GOOD), are_level(GOOD, SLOW)], [True, False, False])
        self.assertTrue(is_ahead(((1, 1), (0, 1)), GOOD))
        self.assertTrue(is_ahead(((1, 1), (-1, 1)), ((1, 1), (0, 1))))
        self.assertTrue(is_ahead(GOOD, ((-1, 1), (0, 1))))
        self.assertTrue(is_ahead(((-1, 1), (0, 1)), JOIN))

    def test_level_and_opposite(self):
        for other in (SLOW, ((2, 1), (1, 1)), ((-1, 1), (-1, 2)), NOTHING):
            self.assertEqual([are_level(SLOW, other), is_ahead(SLOW, other), is_ahead(other, SLOW)], [True, False, False])
        self.assertTrue(are_level(NOTHING, NOTHING))

    def test_errors_in_sequence(self):
        for function in (is_ahead, are_level):
            for value in WRONG:
                for one, other in ((value, GOOD), (GOOD, value), (value, "second")):
                    with self.assertRaises(BadPair) as caught:
                        function(one, other)
                    self.assertIs(caught.exception.value, value)


class Totals(unittest.TestCase):
    def test_sums(self):
        self.assertEqual(total([]), NOTHING)
        self.assertEqual(total(()), NOTHING)
        self.assertEqual(total([GOOD]), GOOD)
        self.assertEqual(total([GOOD, JOIN]), ((3, 1), (-1, 2)))
        self.assertEqual(total((GOOD, JOIN)), ((3, 1), (-1, 2)))
        self.assertEqual(total([SLOW, ((-1, 1), (-1, 2))]), NOTHING)

    def test_like_python_fractions(self):
        source = random.Random(4)
        for _ in range(200):
            pairs = [random_pair(source, 30) for _ in range(source.randint(0, 12))]
            numbers = [as_numbers(pair) for pair in pairs]
            wanted = (as_amount(sum([a for a, _ in numbers], as_fraction((0, 1)))),
                      as_amount(sum([b for _, b in numbers], as_fraction((0, 1)))))
            self.assertEqual(total(pairs), wanted)
            self.assertEqual(total(tuple(pairs)), wanted)

    def test_many_unlike_bottoms(self):
        source = random.Random(5)
        pairs = [random_pair(source, 10 ** 12) for _ in range(900)]
        halves = [total(pairs[:450]), total(pairs[450:])]
        self.assertEqual(total(halves), total(pairs))

    def test_the_first_wrong_entry(self):
        for value in WRONG:
            for pairs in ([value], [GOOD, value, "third"], (GOOD, value, None)):
                with self.assertRaises(BadPair) as caught:
                    total(pairs)
                self.assertIs(caught.exception.value, value)

    def test_the_argument_stays(self):
        pairs = [GOOD, JOIN]
        total(pairs)
        self.assertEqual(pairs, [GOOD, JOIN])


class Spreading(unittest.TestCase):
    def test_products(self):
        source = random.Random(6)
        for _ in range(200):
            pair, share = random_pair(source, 9), random_fraction(source, 9)
            (a, b), s = as_numbers(pair), as_fraction(share)
            self.assertEqual(spread(pair, share), (as_amount(a * s), as_amount(b * s)))
        self.assertEqual(spread(GOOD, (0, 1)), NOTHING)
        self.assertEqual(spread(GOOD, (-2, 1)), ((-8, 1), (-1, 1)))

    def test_errors_in_sequence(self):
        for value in WRONG:
            for share in ((1, 2), (2, 4), None):
                with self.assertRaises(BadPair) as caught:
                    spread(value, share)
                self.assertIs(caught.exception.value, value)
        for value in (None, 1, True, [1, 2], (2, 4), (True, 1), GOOD):
            with self.assertRaises(BadFraction) as caught:
                spread(GOOD, value)
            self.assertIs(caught.exception.value, value)


if __name__ == "__main__":
    unittest.main()
