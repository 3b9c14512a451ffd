import functools
import itertools
import random
import unittest
from fractions import Fraction

from onenumber.algebra import blend, glue, put_together, side_by_side
from onenumber.errors import BadLadder, BadPair, NoFrame, TooMany
from onenumber.frames import is_ring, ring
from onenumber.ladders import chain, is_ladder, pays
from onenumber.pairs import is_pair
from tests.test_ladders import long_ladder
from tests.values import (
    HALF, NOTHING, ODD, ONE, ZERO, as_amount, as_fraction, as_numbers, digits, outcome_of, random_ladder, random_pair,
    random_weight,
)

TWO = (((4, 1), (1, 2)), ((1, 2), (1, 2)))
AGAINST = ((-2, 1), (-1, 1))


def ahead(one, other):
    return one[0] * other[1] - other[0] * one[1]


def gather(rows):
    """[14], "put together", for pairs of numbers in a frame."""
    rows = sorted([row for row in rows if row != (0, 0)], key=functools.cmp_to_key(lambda one, other: ahead(other, one)))
    found = []
    for row in rows:
        if found and ahead(found[-1], row) == 0:
            found[-1] = (found[-1][0] + row[0], found[-1][1] + row[1])
        else:
            found.append(row)
    return found


def glue_numbers(pair, rows):
    rows = gather(rows)
    if pair == (0, 0):
        return rows
    while rows and ahead(rows[0], pair) > 0:
        pair = (pair[0] + rows[0][0], pair[1] + rows[0][1])
        rows = rows[1:]
    return gather([pair] + rows)


def beside_numbers(ladders):
    """[14], "side by side": the foremost rung that is left, of the first ladder that has one such."""
    rest, weights, found = [list(ladder) for ladder in ladders], [Fraction(1) for _ in ladders], []
    while any(rest):
        best = None
        for number, rows in enumerate(rest):
            if rows and (best is None or ahead(rows[0], rest[best][0]) > 0):
                best = number
        pay, fall = rest[best].pop(0)
        others = Fraction(1)
        for number, weight in enumerate(weights):
            others *= weight if number != best else 1
        found.append((pay * others, fall * others))
        weights[best] -= fall
    return gather(found)


def amounts(rows):
    return tuple([(as_amount(pay), as_amount(fall)) for pay, fall in rows])


def numbers(pairs):
    return [as_numbers(pair) for pair in pairs]


def most_paid(terms):
    """The most that can be paid in all by doing every step of some chains, by trying all sequences."""
    best = None
    for number, term in enumerate(terms):
        if term[0] == "step":
            value = as_fraction(term[1])
            for weight, inner in term[2]:
                value += as_fraction(weight) * most_paid(terms[:number] + [inner] + terms[number + 1:])
            best = value if best is None or value > best else best
    return Fraction(0) if best is None else best


class Algebra(unittest.TestCase):
    def refuses(self, pairs, function, *values):
        """That NoFrame is raised with a ring of the pairs."""
        with self.assertRaises(NoFrame) as caught:
            function(*values)
        self.assertIs(is_ring(pairs, caught.exception.value), True)
        self.assertLessEqual(digits([share for _, share in caught.exception.value]), 400)
        again = outcome_of(function, *values)
        self.assertEqual(again, ("raised", "NoFrame", caught.exception.value))


class PutTogether(Algebra):
    def test_ordinary(self):
        self.assertEqual(put_together([]), ())
        self.assertEqual(put_together(()), ())
        self.assertEqual(put_together([NOTHING, NOTHING]), ())
        self.assertEqual(put_together(TWO[::-1]), TWO)
        self.assertEqual(put_together([TWO[1], NOTHING, TWO[0], TWO[1]]), (((4, 1), HALF), (ONE, ONE)))
        self.assertEqual(put_together([(ONE, ZERO), (ZERO, (-1, 1)), (ONE, (-1, 1))]),
                         ((ZERO, (-1, 1)), (ONE, (-1, 1)), (ONE, ZERO)))

    def test_random_rungs(self):
        source = random.Random(29)
        told = {"returned": 0, "raised": 0}
        for _ in range(3000):
            pairs = [random_pair(source, 3) for _ in range(source.randint(0, 5))]
            kept = [pair for pair in pairs if pair != NOTHING]
            if ring(kept) is None:
                self.assertEqual(put_together(pairs), amounts(gather(numbers(pairs))))
                self.assertEqual(put_together(tuple(pairs)), put_together(pairs))
                self.assertEqual(put_together(pairs[::-1]), put_together(pairs))
                told["returned"] += 1
            else:
                self.refuses(kept, put_together, pairs)
                told["raised"] += 1
        self.assertGreater(min(told["returned"], told["raised"]), 300)

    def test_numbers_of_the_ring(self):
        self.refuses([TWO[0], (ONE, HALF), AGAINST], put_together, [NOTHING, TWO[0], NOTHING, (ONE, HALF), AGAINST])
        with self.assertRaises(NoFrame) as caught:
            put_together([NOTHING, (ONE, HALF), NOTHING, AGAINST])
        self.assertEqual([number for number, _ in caught.exception.value], [0, 1])

    def test_more_than_eighty(self):
        self.assertEqual(put_together([(ONE, HALF)] * 3000), (((3000, 1), (1500, 1)),))
        self.assertEqual(len(put_together([((number, 1), ONE) for number in range(1500)])), 1500)
        self.refuses([(ONE, HALF)] * 70 + [AGAINST], put_together, [NOTHING] * 70 + [(ONE, HALF)] * 70 + [AGAINST])
        with self.assertRaises(NoFrame):
            put_together([(ONE, HALF)] * 3000 + [AGAINST])

    def test_the_first_wrong_entry(self):
        for value in ODD:
            if not is_pair(value):
                for pairs in ([value], (TWO[0], value, "third"), [(ONE, HALF), AGAINST, value, None], [NOTHING, value]):
                    with self.assertRaises(BadPair) as caught:
                        put_together(pairs)
                    self.assertIs(caught.exception.value, value)

    def test_the_argument_stays(self):
        pairs = [NOTHING, TWO[1], TWO[0]]
        put_together(pairs)
        self.assertEqual(pairs, [NOTHING, TWO[1], TWO[0]])


class Glue(Algebra):
    def test_ordinary(self):
        self.assertEqual(glue((ONE, HALF), [((9, 2), HALF)]), (((11, 2), ONE),))
        self.assertEqual(glue((ONE, HALF), [(HALF, HALF)]), ((ONE, HALF), (HALF, HALF)))
        self.assertEqual(glue((ONE, HALF), []), ((ONE, HALF),))
        self.assertEqual(glue(NOTHING, []), ())
        self.assertEqual(glue(NOTHING, [TWO[1], NOTHING, TWO[0]]), TWO)
        self.assertEqual(glue((ONE, HALF), [NOTHING]), ((ONE, HALF),))
        self.assertEqual(glue((ONE, HALF), (((9, 2), HALF),)), (((11, 2), ONE),))

    def test_what_is_level_is_put_together(self):
        self.assertEqual(glue((ONE, HALF), [((2, 1), ONE)]), (((3, 1), (3, 2)),))
        # Glued to a first one, it is level with a second one.
        self.assertEqual(glue((ONE, ONE), [((5, 1), ONE), ((3, 1), ONE), (ONE, ONE)]), (((9, 1), (3, 1)), (ONE, ONE)))

    def test_only_as_long_as_the_foremost_is_ahead(self):
        self.assertEqual(glue((ONE, ONE), [((9, 1), ONE), ((4, 1), ONE)]), (((10, 1), (2, 1)), ((4, 1), ONE)))
        self.assertEqual(glue((ONE, ONE), [((9, 1), ONE), ((6, 1), ONE)]), (((16, 1), (3, 1)),))

    def test_random_rungs(self):
        source = random.Random(30)
        told = {"returned": 0, "raised": 0}
        for _ in range(3000):
            pair = source.choice([NOTHING, random_pair(source, 3), random_pair(source, 3)])
            pairs = [random_pair(source, 3) for _ in range(source.randint(0, 4))]
            kept = [other for other in [pair] + pairs if other != NOTHING]
            if ring(kept) is None:
                wanted = amounts(glue_numbers(as_numbers(pair), numbers(pairs)))
                self.assertEqual(glue(pair, pairs), wanted)
                self.assertEqual(glue(pair, tuple(pairs)), wanted)
                told["returned"] += 1
            else:
                self.refuses(kept, glue, pair, pairs)
                told["raised"] += 1
        self.assertGreater(min(told["returned"], told["raised"]), 300)

    def test_numbers_of_the_ring(self):
        for pair, pairs, wanted in (((ONE, HALF), [NOTHING, AGAINST], [0, 1]), (NOTHING, [(ONE, HALF), NOTHING, AGAINST], [0, 1]),
                                    ((ONE, ONE), [NOTHING, (ONE, HALF), AGAINST], [1, 2])):
            with self.assertRaises(NoFrame) as caught:
                glue(pair, pairs)
            self.assertEqual([number for number, _ in caught.exception.value], wanted)

    def test_errors_in_sequence(self):
        for value in ODD:
            if not is_pair(value):
                for pair, pairs in ((value, []), (value, [None]), (value, [(ONE, HALF), AGAINST]), ((ONE, HALF), [value]),
                                    ((ONE, HALF), [AGAINST, value, None]), (NOTHING, (NOTHING, value))):
                    with self.assertRaises(BadPair) as caught:
                        glue(pair, pairs)
                    self.assertIs(caught.exception.value, value)


class SideBySide(Algebra):
    def test_ordinary(self):
        self.assertEqual(side_by_side([]), ())
        self.assertEqual(side_by_side([(), ()]), ())
        self.assertEqual(side_by_side([TWO]), TWO)
        self.assertEqual(side_by_side([(), TWO, ()]), TWO)
        self.assertEqual(side_by_side([TWO, ((ONE, HALF),)]), (((4, 1), HALF), (HALF, (1, 4)), ((1, 4), (1, 4))))
        self.assertEqual(side_by_side((TWO, ((ONE, HALF),))), side_by_side([TWO, ((ONE, HALF),)]))

    def test_nothing_behind_a_rung_that_leaves_nothing(self):
        self.assertEqual(side_by_side([(((9, 1), ONE),), TWO]), (((9, 1), ONE),))
        self.assertEqual(side_by_side([(((8, 1), ONE),), TWO]), (((8, 1), ONE),))
        self.assertEqual(side_by_side([TWO, (((8, 1), ONE),)]), (((8, 1), ONE),))
        self.assertEqual(side_by_side([(((4, 1), ONE),), TWO]), (((4, 1), HALF), ((2, 1), HALF)))
        self.assertEqual(side_by_side([((ONE, ONE),), TWO]), (((4, 1), HALF), (HALF, HALF)))

    def test_random_ladders(self):
        source = random.Random(31)
        told = {"returned": 0, "raised": 0}
        for _ in range(1500):
            ladders = [random_ladder(source, 3, 3) for _ in range(source.randint(1, 3))]
            rungs = [rung for ladder in ladders for rung in ladder]
            if ring(rungs) is None:
                wanted = amounts(beside_numbers([numbers(ladder) for ladder in ladders]))
                for row in itertools.permutations(ladders):
                    self.assertEqual(side_by_side(list(row)), wanted)
                self.assertIs(is_ladder(wanted), True)
                told["returned"] += 1
            else:
                self.refuses(rungs, side_by_side, ladders)
                told["raised"] += 1
        self.assertGreater(min(told["returned"], told["raised"]), 100)

    def test_it_is_the_most_that_can_be_paid(self):
        source = random.Random(32)
        for _ in range(200):
            ladders = [random_ladder(source, 3, 3) for _ in range(source.randint(1, 3))]
            if ring([rung for ladder in ladders for rung in ladder]) is None:
                best = most_paid([chain(ladder) for ladder in ladders])
                self.assertEqual(pays(side_by_side(ladders)), as_amount(best))

    def test_sixty_four(self):
        self.assertEqual(side_by_side([long_ladder(64)]), long_ladder(64))
        self.assertIs(is_ladder(side_by_side([long_ladder(60), long_ladder(4)])), True)
        self.assertEqual(len(side_by_side([((ONE, HALF),)] * 64)), 1)
        for ladders in ([long_ladder(60), long_ladder(5)], [((ONE, HALF),)] * 65, ((), long_ladder(64), TWO[:1])):
            with self.assertRaises(TooMany) as caught:
                side_by_side(ladders)
            self.assertEqual(caught.exception.value, 64)

    def test_many_empty_ladders(self):
        self.assertEqual(side_by_side([()] * 20000 + [TWO] + [()] * 20000), TWO)

    def test_errors_in_sequence(self):
        for value in ODD:
            if not is_ladder(value):
                for ladders in ([value], (TWO, value, None), [long_ladder(64), TWO, value], [((ONE, HALF),), (AGAINST,), value]):
                    with self.assertRaises(BadLadder) as caught:
                        side_by_side(ladders)
                    self.assertIs(caught.exception.value, value)
        with self.assertRaises(TooMany):
            side_by_side([long_ladder(64), (AGAINST,)])
        self.refuses(list(long_ladder(63)) + [((-7, 1), (-1, 100))],
                     side_by_side, [long_ladder(63), (), (((-7, 1), (-1, 100)),)])
        with self.assertRaises(NoFrame) as caught:
            side_by_side([(), TWO, ((ONE, HALF),), (AGAINST,)])
        self.assertEqual([number for number, _ in caught.exception.value], [2, 3])


class Blend(Algebra):
    def test_ordinary(self):
        self.assertEqual(blend([]), ())
        self.assertEqual(blend([(ONE, ())]), ())
        self.assertEqual(blend([(ONE, TWO)]), TWO)
        self.assertEqual(blend([(HALF, TWO), (HALF, ())]), (((2, 1), (1, 4)), ((1, 4), (1, 4))))
        self.assertEqual(blend(((HALF, TWO), ((1, 4), TWO))), (((3, 1), (3, 8)), ((3, 8), (3, 8))))
        self.assertEqual(blend([((2, 1), TWO), ((3, 1), ((ONE, HALF),))]), (((8, 1), ONE), ((3, 1), (3, 2)), (ONE, ONE)))

    def test_random_shares(self):
        source = random.Random(33)
        told = {"returned": 0, "raised": 0}
        for _ in range(1500):
            shares = [(random_weight(source, 4), random_ladder(source, 3, 3)) for _ in range(source.randint(0, 3))]
            rungs = [rung for _, ladder in shares for rung in ladder]
            if ring(rungs) is None:
                rows = [(pay * as_fraction(weight), fall * as_fraction(weight))
                        for weight, ladder in shares for pay, fall in numbers(ladder)]
                self.assertEqual(blend(shares), amounts(gather(rows)))
                self.assertEqual(blend(tuple(shares)), blend(shares))
                if sum([as_fraction(weight) for weight, _ in shares]) <= 1:
                    self.assertIs(is_ladder(blend(shares)), True)
                told["returned"] += 1
            else:
                self.refuses(rungs, blend, shares)
                told["raised"] += 1
        self.assertGreater(min(told["returned"], told["raised"]), 100)

    def test_sixty_four(self):
        self.assertEqual(len(blend([((1, 3), long_ladder(64))])), 64)
        for shares in ([((1, 3), long_ladder(64)), (ONE, TWO[:1])], [(HALF, TWO)] * 33):
            with self.assertRaises(TooMany) as caught:
                blend(shares)
            self.assertEqual(caught.exception.value, 64)
        self.assertEqual(blend([((1, 32), TWO)] * 32), TWO)

    def test_errors_in_sequence(self):
        wrong = [(ZERO, TWO), ((-1, 2), TWO), ((2, 4), TWO), (1, TWO), (True, TWO), (HALF, TWO[::-1]), (HALF, list(TWO)),
                 (HALF,), (HALF, TWO, TWO), [HALF, TWO], (TWO, HALF), TWO, (HALF, None), (HALF, (NOTHING,)), None, HALF,
                 (HALF, long_ladder(65)), ((True, 2), TWO)]
        for value in wrong + [(HALF, other) for other in ODD if not is_ladder(other)] + [(other, ()) for other in ODD if (
                not is_pair((other, ONE)) or other[0] <= 0)]:
            for shares in ([value], ((HALF, TWO), value, None), [(HALF, long_ladder(64)), (HALF, TWO), value],
                           [(HALF, ((ONE, HALF),)), (HALF, (AGAINST,)), value]):
                with self.assertRaises(BadLadder) as caught:
                    blend(shares)
                self.assertIs(caught.exception.value, value)
        for value in ODD:
            with self.assertRaises(BadLadder) as caught:
                blend([value])
            self.assertIs(caught.exception.value, value)
        with self.assertRaises(TooMany):
            blend([(HALF, long_ladder(64)), (HALF, (AGAINST,))])

    def test_numbers_of_the_ring(self):
        with self.assertRaises(NoFrame) as caught:
            blend([((1, 7), ()), ((1, 7), TWO), ((3, 7), ((ONE, HALF),)), ((9, 1), (AGAINST,))])
        found = caught.exception.value
        self.assertEqual([number for number, _ in found], [2, 3])
        self.assertIs(is_ring(list(TWO) + [(ONE, HALF), AGAINST], found), True)


class LongFractions(Algebra):
    def test_twelve_digits(self):
        source = random.Random(34)
        for _ in range(20):
            pairs = [random_pair(source, 10 ** 12 - 1) for _ in range(12)]
            kind = outcome_of(put_together, pairs)
            self.assertEqual(kind[0], "returned" if ring(pairs) is None else "raised")
            half = [pair for pair in pairs if pair[1][0] > 0]
            self.assertEqual(put_together(half), amounts(gather(numbers(half))))
            if ring(pairs) is not None:
                self.refuses(pairs, put_together, pairs)

    def test_ladders_of_twelve_digits(self):
        source = random.Random(35)
        one, other = [tuple([((source.randint(1, 10 ** 12) * (9 - number), 10 ** 11 + 3), (1, 10 ** 12 - number))
                             for number in range(6)]) for _ in range(2)]
        ladders = [put_together(one), put_together(other)]
        self.assertEqual(side_by_side(ladders), amounts(beside_numbers([numbers(ladder) for ladder in ladders])))


if __name__ == "__main__":
    unittest.main()
