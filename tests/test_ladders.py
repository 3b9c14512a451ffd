import random
import unittest
from fractions import Fraction

from onenumber.errors import BadLadder, TooMany
from onenumber.frames import ring
from onenumber.ladders import chain, is_ladder, is_same_frame, left, pays
from onenumber.terms import is_term, steps
from tests.values import (
    END, HALF, NOTHING, ODD, ONE, ZERO, as_amount, as_fraction, as_numbers, nested, random_ladder, random_pair,
)

TWO = (((4, 1), (1, 2)), ((1, 2), (1, 2)))
GROWING = (((3, 1), (-1, 1)), ((4, 1), (2, 1)))


def long_ladder(count):
    """A ladder of so many rungs, at most 99, that leaves something."""
    return tuple([((count - number, 1), (1, 100)) for number in range(count)])


def is_ladder_by_rules(pairs):
    """[13] word by word, for a tuple of pairs."""
    weight = Fraction(1)
    for number, pair in enumerate(pairs):
        pay, fall = as_numbers(pair)
        if pair == NOTHING or weight <= 0:
            return False
        weight -= fall
        if weight < 0:
            return False
        if number + 1 < len(pairs):
            other_pay, other_fall = as_numbers(pairs[number + 1])
            if not pay * other_fall > other_pay * fall:
                return False
    return ring(pairs) is None


class IsLadder(unittest.TestCase):
    def test_right(self):
        for value in ((), TWO, GROWING, TWO[:1], TWO[1:], long_ladder(64), ((ONE, ONE),), ((ONE, ZERO),), ((ZERO, ONE),),
                      ((ZERO, (-1, 1)),), (((-5, 1), HALF),), (((-5, 1), (-7, 1)),), ((ONE, ZERO), ((-1, 1), ONE))):
            self.assertIs(is_ladder(value), True, value)

    def test_kinds(self):
        for value in (None, True, 0, "", [], {}, list(TWO), [TWO], (None,), (TWO,), ((ONE, [1, 2]),), ((ONE, (2, 4)),),
                      ((ONE, (True, 2)),), (list(TWO[0]),), TWO + (None,), TWO[0], nested(tuple, 200), TWO + ((1, 2),)):
            self.assertIs(is_ladder(value), False, value)

    def test_sequence(self):
        self.assertIs(is_ladder(TWO[::-1]), False)
        self.assertIs(is_ladder((((1, 1), (1, 4)), ((1, 1), (1, 4)))), False)
        self.assertIs(is_ladder((((1, 1), (1, 4)), ((2, 1), (1, 2)))), False)
        self.assertIs(is_ladder((((1, 1), (1, 4)), ((1, 2), (1, 4)), ((3, 4), (1, 4)))), False)

    def test_nothing_is_no_rung(self):
        for value in ((NOTHING,), (TWO[0], NOTHING), (NOTHING, TWO[0]), (TWO[0], NOTHING, TWO[1])):
            self.assertIs(is_ladder(value), False)

    def test_weights_left(self):
        self.assertIs(is_ladder(((ONE, (2, 1)),)), False)
        self.assertIs(is_ladder(((ONE, (1000001, 1000000)),)), False)
        self.assertIs(is_ladder((((4, 1), ONE), (ONE, ONE))), False)
        self.assertIs(is_ladder((((4, 1), ONE), ((-1, 1), (1, 3)))), False)
        self.assertIs(is_ladder((((4, 1), HALF), (ONE, (2, 3)))), False)
        # Behind the one that leaves nothing another one stands, though weight comes again.
        self.assertIs(is_ladder((((4, 1), ONE), ((-1, 1), (-1, 1)))), False)
        self.assertIs(is_ladder((((4, 1), ONE), ((-1, 1), ZERO))), False)

    def test_each_ahead_of_the_next_without_a_frame(self):
        around = (((1, 2), (0, 1)), ((-1, 4), (1, 4)), ((-1, 4), (-1, 4)))
        for one, other in zip(around, around[1:]):
            self.assertGreater(as_numbers(one)[0] * as_numbers(other)[1], as_numbers(other)[0] * as_numbers(one)[1])
        self.assertIs(is_ladder(around), False)
        self.assertIs(is_ladder(around[:2]), True)
        self.assertIs(is_ladder(around[1:]), True)

    def test_sixty_four(self):
        self.assertEqual(len(long_ladder(64)), 64)
        self.assertIs(is_ladder(long_ladder(65)), False)
        self.assertIs(is_ladder(long_ladder(65)[1:]), True)

    def test_by_rules(self):
        source = random.Random(25)
        right = 0
        for _ in range(6000):
            pairs = tuple([random_pair(source, 3) for _ in range(source.randint(0, 3))])
            self.assertIs(is_ladder(pairs), is_ladder_by_rules(pairs), pairs)
            right += is_ladder(pairs) and len(pairs) > 1
        self.assertGreater(right, 50)

    def test_any_value(self):
        for value in ODD:
            self.assertIn(is_ladder(value), (True, False))


class Sums(unittest.TestCase):
    def test_ordinary(self):
        self.assertEqual([pays(TWO), left(TWO)], [(9, 2), [HALF, ZERO]])
        self.assertEqual([pays(GROWING), left(GROWING)], [(7, 1), [(2, 1), ZERO]])
        self.assertEqual([pays(()), left(())], [ZERO, []])
        self.assertEqual([pays((((-5, 1), (-7, 1)),)), left((((-5, 1), (-7, 1)),))], [(-5, 1), [(8, 1)]])

    def test_random_ladders(self):
        source = random.Random(26)
        for _ in range(300):
            ladder = random_ladder(source, 5)
            numbers = [as_numbers(rung) for rung in ladder]
            self.assertEqual(pays(ladder), as_amount(sum([pay for pay, _ in numbers], Fraction(0))))
            wanted = [as_amount(1 - sum([fall for _, fall in numbers[:count + 1]])) for count in range(len(ladder))]
            self.assertEqual(left(ladder), wanted)
            self.assertIsNot(left(ladder), left(ladder))

    def test_errors(self):
        for value in ODD + [TWO[::-1], list(TWO), (NOTHING,), long_ladder(65)]:
            if not is_ladder(value):
                for function in (pays, left, chain):
                    with self.assertRaises(BadLadder) as caught:
                        function(value)
                    self.assertIs(caught.exception.value, value)


class Chains(unittest.TestCase):
    def test_ordinary(self):
        self.assertEqual(chain(()), END)
        self.assertEqual(chain(TWO), ("step", (4, 1), ((HALF, ("step", (1, 1), ())),)))
        self.assertEqual(chain(TWO[:1]), ("step", (4, 1), ((HALF, END),)))
        self.assertEqual(chain(GROWING), ("step", (3, 1), (((2, 1), ("step", (2, 1), ())),)))
        self.assertEqual(chain(((ONE, ZERO),)), ("step", ONE, ((ONE, END),)))
        self.assertEqual(chain(((ONE, ONE),)), ("step", ONE, ()))

    def test_random_ladders(self):
        source = random.Random(27)
        for _ in range(300):
            ladder = random_ladder(source, 5)
            term = chain(ladder)
            self.assertIs(is_term(term), True)
            self.assertEqual(len(steps(term)), len(ladder))
            # Going along the chain tells the rungs again.
            weight = Fraction(1)
            for rung in ladder:
                factor = sum([as_fraction(share) for share, _ in term[2]])
                pay = weight * as_fraction(term[1])
                self.assertEqual(rung, (as_amount(pay), as_amount(weight * (1 - factor))))
                self.assertLessEqual(len(term[2]), 1)
                weight *= factor
                term = term[2][0][1] if term[2] else END
            self.assertEqual(term, END)

    def test_sixteen(self):
        self.assertEqual(len(steps(chain(long_ladder(16)))), 16)
        for count in (17, 64):
            with self.assertRaises(TooMany) as caught:
                chain(long_ladder(count))
            self.assertEqual(caught.exception.value, 16)
        with self.assertRaises(BadLadder):
            chain(long_ladder(17)[::-1])
        with self.assertRaises(BadLadder):
            chain(long_ladder(65))


class SameFrames(unittest.TestCase):
    def test_ordinary(self):
        self.assertIs(is_same_frame([]), True)
        self.assertIs(is_same_frame(()), True)
        self.assertIs(is_same_frame([(), ()]), True)
        self.assertIs(is_same_frame([TWO, TWO, GROWING]), True)
        self.assertIs(is_same_frame((TWO, GROWING)), True)
        self.assertIs(is_same_frame([((ONE, HALF),), (((-2, 1), (-1, 1)),)]), False)
        self.assertIs(is_same_frame([((ONE, ZERO),), (((-1, 4), (1, 4)),), (((-1, 4), (-1, 4)),)]), False)
        self.assertIs(is_same_frame([((ONE, ZERO),), (((-1, 4), (1, 4)),)]), True)

    def test_by_rings(self):
        source = random.Random(28)
        for _ in range(400):
            ladders = [random_ladder(source, 3) for _ in range(source.randint(0, 4))]
            wanted = ring([rung for ladder in ladders for rung in ladder]) is None
            self.assertIs(is_same_frame(ladders), wanted)
            self.assertIs(is_same_frame(tuple(ladders)), wanted)

    def test_more_rungs_than_a_ladder_has(self):
        self.assertIs(is_same_frame([long_ladder(64)] * 3), True)
        self.assertIs(is_same_frame([long_ladder(64)] * 3 + [(((-1, 1), (-1, 100)),)]), False)

    def test_the_first_wrong_entry(self):
        for value in ODD:
            if not is_ladder(value):
                for ladders in ([value], (TWO, value, "third"), [TWO, value, None]):
                    with self.assertRaises(BadLadder) as caught:
                        is_same_frame(ladders)
                    self.assertIs(caught.exception.value, value)


if __name__ == "__main__":
    unittest.main()
