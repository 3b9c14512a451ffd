import itertools
import random
import unittest

from onenumber.errors import BadPairs
from onenumber.frames import is_ring, is_witness, ring, witness
from onenumber.pairs import spread
from tests.values import HALF, NOTHING, ODD, ONE, as_numbers, digits, random_fraction, random_pair

WORK, FILT, JOIN = ((1, 1), (1, 2)), ((-1, 10), (1, 2)), ((-1, 1), (-1, 1))
EAST, NORTH, WEST, SOUTH = ((1, 1), (0, 1)), ((0, 1), (1, 1)), ((-1, 1), (0, 1)), ((0, 1), (-1, 1))


def witnesses(pairs, value):
    """Whether a pair is a witness, by [4]."""
    u, v = as_numbers(value)
    return all([u * a + v * b > 0 for a, b in map(as_numbers, pairs)])


def rings(pairs, value):
    """Whether tuples (number, share) are a ring, by [4]."""
    numbers = [number for number, _ in value]
    if numbers != sorted(set(numbers)) or not 1 <= len(numbers) <= 3:
        return False
    shares = [as_numbers((share, share))[0] for _, share in value]
    chosen = [as_numbers(pairs[number]) for number in numbers]
    return min(shares) > 0 and all([sum([s * p[k] for s, p in zip(shares, chosen)]) == 0 for k in (0, 1)])


def some_ring_exists(pairs):
    """Whether one, two or three of the pairs come to nothing, by signs of products alone."""
    arrows = [as_numbers(pair) for pair in pairs]

    def turn(one, other):
        return one[0] * other[1] - one[1] * other[0]

    for one in arrows:
        if one == (0, 0):
            return True
    for one, other in itertools.combinations(arrows, 2):
        if turn(one, other) == 0 and one[0] * other[0] + one[1] * other[1] < 0:
            return True
    for one, other, third in itertools.combinations(arrows, 3):
        signs = [turn(one, other) > 0, turn(other, third) > 0, turn(third, one) > 0]
        backs = [turn(one, other) < 0, turn(other, third) < 0, turn(third, one) < 0]
        if all(signs) or all(backs):
            return True
    return False


class EitherOr(unittest.TestCase):
    def judge(self, pairs):
        found, aim = ring(pairs), witness(pairs)
        self.assertNotEqual(found is None, aim is None, pairs)
        self.assertEqual(found is not None, some_ring_exists(pairs))
        self.assertEqual((found, aim), (ring(tuple(pairs)), witness(tuple(pairs))))
        if aim is not None:
            self.assertTrue(witnesses(pairs, aim))
            self.assertIs(is_witness(pairs, aim), True)
        else:
            self.assertTrue(rings(pairs, found))
            self.assertIs(is_ring(pairs, found), True)
            self.assertIs(is_ring(tuple(pairs), found), True)

    def test_random_pairs(self):
        source = random.Random(7)
        for _ in range(3000):
            size = source.choice([1, 2, 5, 1000])
            self.judge([random_pair(source, size) for _ in range(source.randint(0, 6))])

    def test_pairs_of_one_side(self):
        source = random.Random(8)
        for _ in range(500):
            aim = random_pair(source, 9)
            pairs = [random_pair(source, 9) for _ in range(12)]
            self.judge([pair for pair in pairs if witnesses([pair], aim)])

    def test_all_small_directions(self):
        arrows = [((a, 1), (b, 1)) for a in (-1, 0, 1) for b in (-1, 0, 1)]
        for count in (1, 2, 3):
            for pairs in itertools.product(arrows, repeat=count):
                self.judge(list(pairs))

    def test_no_pairs(self):
        for pairs in ([], ()):
            self.assertIsNone(ring(pairs))
            self.assertIs(is_witness(pairs, witness(pairs)), True)
            for value in (NOTHING, WORK, JOIN):
                self.assertIs(is_witness(pairs, value), True)
            self.assertIs(is_witness(pairs, None), False)
            self.assertIs(is_ring(pairs, ()), False)
            self.assertIs(is_ring(pairs, ((0, ONE),)), False)

    def test_rings_of_one_two_and_three(self):
        self.assertEqual(ring([NOTHING]), ((0, ONE),))
        self.assertEqual([number for number, _ in ring([WORK, FILT, NOTHING])], [2])
        self.assertEqual([number for number, _ in ring([WORK, FILT, ((-2, 1), (-1, 1))])], [0, 2])
        self.assertEqual([number for number, _ in ring([EAST, NORTH, JOIN])], [0, 1, 2])
        self.assertIsNone(ring([EAST, NORTH, WORK]))

    def test_half_a_turn_is_too_much(self):
        self.judge([EAST, NORTH, WEST])
        self.judge([SOUTH, EAST, NORTH])
        self.judge([EAST, NORTH, ((-10 ** 12, 1), (1, 10 ** 12))])
        self.judge([EAST, NORTH, ((-10 ** 12, 1), (-1, 10 ** 12))])

    def test_eighty_and_eighty_one(self):
        source = random.Random(9)
        many = [random_pair(source, 10) for _ in range(80)]
        self.judge(many)
        level = [WORK] * 80
        self.judge(level)
        self.judge(level[:79] + [NOTHING])
        self.judge(level[:79] + [((-3, 1), (-3, 2))])
        for function in (witness, ring):
            for pairs in (level + [WORK], tuple(level) + (WORK,), [NOTHING] * 81):
                with self.assertRaises(BadPairs) as caught:
                    function(pairs)
                self.assertIs(caught.exception.value, pairs)
        for function in (is_witness, is_ring):
            with self.assertRaises(BadPairs):
                function(level + [WORK], WORK)

    def test_calls_made_again(self):
        source = random.Random(10)
        pairs = [random_pair(source, 10) for _ in range(20)]
        kept = list(pairs)
        self.assertEqual(ring(pairs), ring(list(pairs)))
        self.assertEqual(pairs, kept)


class Digits(unittest.TestCase):
    def judge(self, pairs):
        found = ring(pairs)
        if found is None:
            aim = witness(pairs)
            self.assertTrue(witnesses(pairs, aim))
            self.assertLessEqual(digits(aim), 400)
        else:
            self.assertTrue(rings(pairs, found))
            self.assertLessEqual(digits([share for _, share in found]), 400)

    def test_twelve_digits(self):
        source = random.Random(11)
        for _ in range(40):
            pairs = [random_pair(source, 10 ** 12 - 1) for _ in range(80)]
            self.judge(pairs)
            self.judge(pairs[:3])
            self.judge([pair for pair in pairs if witnesses([pair], WORK)])

    def test_nearly_opposite(self):
        low, high = 10 ** 12 - 1, 10 ** 12 - 2
        one = ((low, high), (high, low))
        other = ((-low, high), (1 - high, low))
        third = ((-high, low), (-low, high))
        for pairs in ([one, other], [one, third], [one, other, third], [other, third, EAST], [one, third, WEST]):
            self.judge(pairs)
            self.judge(pairs[::-1])

    def test_pairs_longer_than_twelve_digits(self):
        source = random.Random(12)
        for _ in range(30):
            pairs = [random_pair(source, 10 ** 90) for _ in range(3)]
            self.judge(pairs)
        # Where only the long ones are in one frame, the witness need not be long.
        long = [(random_fraction(source, 10 ** 900), (abs(random_fraction(source, 10 ** 900)[0]), 1)) for _ in range(40)]
        self.judge([pair for pair in long if witnesses([pair], WORK)])
        # A ring is of short pairs where there is one.
        self.judge(long + [((-1, 1), (-2, 1)), ((5, 1), (0, 1)), ((-3, 2), (7, 1))])

    def test_what_all_shares_have_in_common(self):
        bottom, top = 10 ** 149 + 3, 10 ** 99 + 7
        for pairs in ([((1, bottom), (2, bottom)), ((-3, bottom), (1, bottom)), ((1, bottom), (-4, bottom))],
                      [((top, 1), (2 * top, 1)), ((-3 * top, 1), (top, 1)), ((top, 1), (-4 * top, 1))],
                      [((top, bottom), (0, 1)), ((-top, bottom), (top, bottom)), ((-top, bottom), (-top, bottom))],
                      [((top, 1), (0, 1)), ((-3 * top, 1), (0, 1))], [((0, 1), (1, bottom)), ((0, 1), (-7, bottom))],
                      [((top, bottom), (2 * top, bottom)), ((-3 * top, bottom), (-6 * top, bottom))]):
            self.judge(pairs)
            self.assertLessEqual(digits([share for _, share in ring(pairs)]), 3)

    def test_long_weights(self):
        source = random.Random(36)
        for _ in range(30):
            pairs = [random_pair(source, 10 ** 12) for _ in range(3)]
            self.judge([spread(pair, random_fraction(source, 10 ** 200)) for pair in pairs])
            self.judge([spread(pair, random_fraction(source, 10 ** 200)) for pair in (WORK, JOIN, EAST)])

    def test_the_short_ones_of_a_ring(self):
        # Each of the long ones is further out than the short ones, but a ring is of these.
        top = 10 ** 500 + 9
        long = [((top, top + 2), (-7, 2)), ((-top, top + 2), (-7, 3))]
        short = [((1, 1), (-1, 1)), ((-1, 1), (-1, 1)), ((1, 9), (1, 1))]
        for pairs in (long + short, short + long, short[:2] + long + short[2:]):
            self.judge(pairs)
            self.assertEqual(sorted([pairs[number] for number, _ in ring(pairs)]), sorted(short))
        further = [((3, 1), (-1, 1)), ((-3, 1), (-1, 1)), ((6000001, 1), (-10 ** 6, 1)), ((-6000001, 1), (-10 ** 6, 1)),
                   ((1, 10 ** 9), (10 ** 9, 1))]
        self.assertEqual([number for number, _ in ring(further)], [0, 1, 4])

    def test_opposite_long_pairs(self):
        top, bottom, other = 10 ** 350 + 1, 10 ** 349 + 7, 10 ** 348 + 9
        self.judge([((top, 1), (0, 1)), ((-1, bottom), (0, 1))])
        self.judge([((0, 1), (top, 1)), ((0, 1), (-bottom, other))])


class Judges(unittest.TestCase):
    def test_is_witness(self):
        pairs = [WORK, FILT]
        self.assertIs(is_witness(pairs, ((0, 1), (1, 1))), True)
        self.assertIs(is_witness(pairs, ((0, 1), (-1, 1))), False)
        self.assertIs(is_witness([EAST], NORTH), False)
        self.assertIs(is_witness([WORK], NOTHING), False)
        self.assertIs(is_witness([NOTHING], WORK), False)
        self.assertIs(is_witness(pairs, [(0, 1), (1, 1)]), False)
        self.assertIs(is_witness(pairs, ((0, 2), (1, 1))), False)
        self.assertIs(is_witness(pairs, ((0, 1), (True, 1))), False)

    def test_is_witness_by_products(self):
        source = random.Random(13)
        for _ in range(1000):
            pairs = [random_pair(source, 3) for _ in range(source.randint(0, 3))]
            value = random_pair(source, 3)
            self.assertIs(is_witness(pairs, value), witnesses(pairs, value))

    def test_is_ring(self):
        pairs = [WORK, ((-2, 1), (-1, 1)), NOTHING, ((-1, 1), (-1, 2))]
        for value in (((0, (2, 1)), (1, ONE)), ((0, (1, 3)), (1, (1, 6))), ((2, (7, 5)),), ((0, ONE), (3, ONE)),
                      ((0, (4, 1)), (1, ONE), (3, (2, 1))), ((0, ONE), (2, ONE), (3, ONE))):
            self.assertIs(is_ring(pairs, value), True, value)
        for value in (((1, ONE), (0, (2, 1))), ((0, (2, 1)), (0, ONE)), ((0, (2, 1)), (True, ONE)), ((2, (0, 1)),),
                      ((0, (-2, 1)), (1, (-1, 1))), ((0, (2, 1)), (1, (2, 2))), [(0, (2, 1)), (1, ONE)],
                      ((0, (2, 1)), [1, ONE]), ((0, ONE), (1, ONE)), ((4, ONE),), ((-2, ONE),), (), None,
                      ((0, (2, 1)), (1, ONE), ()), ((2, ONE, ONE),), ((2,),), (("2", ONE),), ((2, 1),), ((2, True),),
                      ((0, (2, 1)), (1, (1, 2)), (2, ONE), (3, ONE)), ((False, (2, 1)), (1, ONE)),
                      ((2, ONE), (2, ONE)), ((2, ONE), (2, HALF), (2, ONE)), ((0, ONE), (0, ONE), (1, ONE))):
            self.assertIs(is_ring(pairs, value), False, value)

    def test_numbers_from_behind_are_none(self):
        for pairs in ([NOTHING], [WORK, NOTHING], [WORK, JOIN, NOTHING]):
            self.assertIs(is_ring(pairs, ((len(pairs) - 1, ONE),)), True)
            for number in (-1, -len(pairs), len(pairs)):
                self.assertIs(is_ring(pairs, ((number, ONE),)), False)

    def test_only_one_of_the_sums_is_nothing(self):
        self.assertIs(is_ring([((1, 1), (1, 1)), ((-1, 1), (1, 1))], ((0, ONE), (1, ONE))), False)
        self.assertIs(is_ring([((1, 1), (1, 1)), ((1, 1), (-1, 1))], ((0, ONE), (1, ONE))), False)

    def test_any_value(self):
        for value in ODD:
            for pairs in ([], [WORK, FILT], [NOTHING]):
                self.assertIn(is_witness(pairs, value), (True, False))
                self.assertIs(is_ring(pairs, value), False)


class WrongPairs(unittest.TestCase):
    def test_wrong_pairs_first(self):
        for value in ([WORK, None], [[(1, 1), (1, 2)]], (WORK, (1, 2)), None, True, 3, "", {}, {WORK: WORK}, WORK,
                      [WORK, ((2, 2), (1, 1))], [(WORK, WORK)]):
            for function, more in ((witness, ()), (ring, ()), (is_witness, (None,)), (is_ring, (None,)),
                                   (is_witness, (WORK,)), (is_ring, (((0, ONE),),))):
                with self.assertRaises(BadPairs) as caught:
                    function(value, *more)
                self.assertIs(caught.exception.value, value)

    def test_any_value(self):
        for value in ODD:
            try:
                self.assertNotEqual(witness(value) is None, ring(value) is None)
            except BadPairs as error:
                self.assertIs(error.value, value)


if __name__ == "__main__":
    unittest.main()
