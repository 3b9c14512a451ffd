import random
from fractions import Fraction

from onenumber.convex import greatest_of, start_behind, straight, sum_of, times_weight, turns_of, value_at
from tests.values import HALF, ONE, ZERO, Case, as_amount, as_fraction, random_fraction, random_weight


def random_lines(source, count):
    return [(random_fraction(source, 4), random_fraction(source, 3)) for _ in range(count)]


def at(lines, value):
    return max([as_fraction(top) + as_fraction(slope) * value for top, slope in lines])


class Convex(Case):
    def judge(self, pieces):
        """That pieces have ascending starts and slopes, and go on from one another."""
        self.assertIsNone(pieces[0][0])
        starts = [as_fraction(start) for start in turns_of(pieces)]
        self.assertEqual(starts, sorted(set(starts)))
        slopes = [as_fraction(slope) for _, _, slope in pieces]
        self.assertEqual(slopes, sorted(set(slopes)))
        for (_, top, slope), (start, other_top, other_slope) in zip(pieces, pieces[1:]):
            start = as_fraction(start)
            self.assertEqual(as_fraction(top) + as_fraction(slope) * start,
                             as_fraction(other_top) + as_fraction(other_slope) * start)

    def values(self, source, pieces):
        found = [Fraction(source.randint(-40, 40), source.randint(1, 5)) for _ in range(8)]
        return found + [as_fraction(start) + shift for start in turns_of(pieces) for shift in (0, Fraction(1, 97), -1)]

    def test_the_greatest_of_lines(self):
        source = random.Random(261)
        for _ in range(200):
            lines = random_lines(source, source.randint(1, 7))
            pieces = greatest_of([straight(top, slope) for top, slope in lines])
            self.judge(pieces)
            for value in self.values(source, pieces):
                self.assertEqual(as_fraction(value_at(pieces, as_amount(value))), at(lines, value))

    def test_lines_that_touch_alone(self):
        # The line in the middle is as great as the others at 0 alone: a piece of no length is none.
        lines = [straight(ZERO, (-1, 1)), straight(ZERO, ZERO), straight(ZERO, ONE)]
        self.assertEqual(greatest_of(lines), [(None, ZERO, (-1, 1)), (ZERO, ZERO, ONE)])
        self.assertEqual(greatest_of([straight(ONE, ZERO), straight(HALF, ZERO), straight(ONE, ZERO)]), [(None, ONE, ZERO)])

    def test_sums(self):
        source = random.Random(262)
        for _ in range(150):
            groups = [random_lines(source, source.randint(1, 4)) for _ in range(source.randint(1, 3))]
            weights = [random_weight(source, 3) for _ in groups]
            functions = [greatest_of([straight(top, slope) for top, slope in lines]) for lines in groups]
            pieces = sum_of([times_weight(function, weight) for function, weight in zip(functions, weights)])
            self.judge(pieces)
            for value in self.values(source, pieces):
                told = sum([as_fraction(weight) * at(lines, value) for lines, weight in zip(groups, weights)])
                self.assertEqual(as_fraction(value_at(pieces, as_amount(value))), told)

    def test_starts(self):
        pieces = [(None, ZERO, ZERO), (ONE, (-1, 1), ONE)]
        self.assertEqual([start_behind(pieces, 0), start_behind(pieces, 1), turns_of(pieces)], [ONE, None, [ONE]])
        self.assertEqual([value_at(pieces, value) for value in (ZERO, ONE, (3, 1))], [ZERO, ZERO, (2, 1)])
