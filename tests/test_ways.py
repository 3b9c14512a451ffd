import random
import unittest
from fractions import Fraction

from onenumber.companies import counted, go_with, goes_with, lots, worth_in
from onenumber.dominance import never_worse, worse_in
from onenumber.errors import BadHabit, BadLadder, BadNumber, BadWays, NoCompany, NoFit
from onenumber.ladders import chain, is_ladder, weights_left
from onenumber.terms import is_term
from onenumber.ways import (
    beaten_in,
    best_everywhere,
    best_in,
    best_of,
    ladder_of_ways,
    two_companies,
    with_some_of,
)
from tests.values import (
    END,
    HALF,
    LEAF,
    ODD,
    ONE,
    ZERO,
    as_amount,
    as_fraction,
    digits,
    grid_of_companies,
    long_chain,
    outcome_of,
    random_ladder,
    random_term,
    small_ladder,
)

HABITS = ("done", "free")
WORK = ("step", (1, 1), ((HALF, END),))
MORE = ("step", (2, 1), ((HALF, END),))
AGAINST = ("step", (-2, 1), (((2, 1), END),))
DOWN = ("step", (0, 1), (((2, 1), END),))
GRID = grid_of_companies()
ALL = ((best_everywhere, ()), (ladder_of_ways, ()), (two_companies, ()))


def random_ways(source, most=4):
    """Random ways that fit together by a habit, often of the same pays."""
    while True:
        habit, total = source.choice(HABITS), source.choice([None, 0, 1, 3])
        ways = tuple([chain(small_ladder(source, 2, total)) for _ in range(source.randint(1, most))])
        if goes_with(ways, (), habit):
            return ways, habit


def longest(company):
    return max([digits(rung) for rung in company], default=0)


class Ways(unittest.TestCase):
    def told(self, kind, function, *values):
        with self.assertRaises(kind) as caught:
            function(*values)
        return caught.exception.value

    def judge(self, ways, habit):
        best, two = best_everywhere(ways, habit), two_companies(ways, habit)
        ladder = ladder_of_ways(ways, habit)
        if best:
            self.assertIsNone(two)
            self.assertIn(best, lots(ways, habit))
            self.assertEqual(ladder, counted(ways[best[0]], habit))
        else:
            self.assertIsNone(ladder)
            self.assertIsInstance(two, tuple)
            self.assertEqual(len(two), 2)
            for company, most in zip(two, (3, 2)):
                self.assertTrue(is_ladder(company))
                self.assertLessEqual(len(company), most)
                self.assertIs(goes_with(ways, company, habit), True, (ways, habit))
                self.assertLessEqual(longest(company), 400)
            first, second = [best_in(ways, company, habit) for company in two]
            self.assertEqual([number for number in first if number in second], [], (ways, habit))
        for number in range(len(ways)):
            company = beaten_in(ways, number, habit)
            self.assertIs(company is None, number in best)
            if company is not None:
                self.assertTrue(is_ladder(company))
                self.assertLessEqual(len(company), 2)
                self.assertLessEqual(longest(company), 400)
                self.assertIs(goes_with(ways, company, habit), True)
                self.assertNotIn(number, best_in(ways, company, habit))
        return best

    def test_best_in_a_company(self):
        source = random.Random(191)
        for _ in range(200):
            ways, habit = random_ways(source)
            company = random_ladder(source, 3)
            if not goes_with(ways, company, habit):
                self.assertIs(self.told(NoCompany, best_in, ways, company, habit), company)
                continue
            worths = [as_fraction(worth_in(way, company, habit)) for way in ways]
            self.assertEqual(best_in(ways, company, habit),
                             [number for number, worth in enumerate(worths) if worth == max(worths)])

    def test_small_ones(self):
        self.assertEqual([best_everywhere((END,), habit) for habit in HABITS], [[0], [0]])
        self.assertEqual([ladder_of_ways((WORK, LEAF), habit) for habit in HABITS], [None, (((1, 1), HALF),)])
        self.assertEqual(best_everywhere((WORK, MORE, ("all", (MORE, END)), WORK), "done"), [1, 2])
        self.assertEqual(ladder_of_ways((WORK, MORE), "done"), (((2, 1), HALF),))
        self.assertEqual(beaten_in((WORK, MORE), 0, "done"), ())
        self.assertEqual([beaten_in((WORK, MORE), 1, habit) for habit in HABITS], [None, None])
        costs = ("step", (-1, 1), ((HALF, END),))
        self.assertEqual(best_everywhere((costs, END, ("step", ZERO, ())), "free"), [0, 1, 2])
        self.assertEqual(ladder_of_ways((costs, END), "free"), ())
        self.assertEqual(best_everywhere((costs, END), "done"), [])

    def test_random_ways(self):
        source = random.Random(192)
        found = {"best": 0, "none": 0, "three rungs": 0}
        for _ in range(250):
            ways, habit = random_ways(source)
            best = self.judge(ways, habit)
            found["best" if best else "none"] += 1
            if best:
                for company in source.sample(GRID, 20) + [random_ladder(source, 3) for _ in range(5)]:
                    if goes_with(ways, company, habit):
                        told = best_in(ways, company, habit)
                        self.assertEqual([number for number in best if number not in told], [], (ways, habit, company))
        self.assertGreater(found["best"], 30)
        self.assertGreater(found["none"], 30)

    def test_random_terms_as_ways(self):
        source = random.Random(193)
        count = 0
        while count < 80:
            ways = tuple([random_term(source, 8) for _ in range(source.randint(2, 4))])
            habit = source.choice(HABITS)
            if goes_with(ways, (), habit):
                count += 1
                self.judge(ways, habit)

    def test_ways_that_are_tied_without_a_company(self):
        # All of them pay the same, and each further rung of the first company leaves fewer that are best.
        source = random.Random(194)
        rungs = set()
        for _ in range(120):
            habit = source.choice(HABITS)
            ways = tuple([chain(small_ladder(source, 3, 2)) for _ in range(4)])
            if goes_with(ways, (), habit) and not self.judge(ways, habit):
                rungs.add(len(two_companies(ways, habit)[0]))
        self.assertIn(1, rungs)

    def test_ways_that_need_three_rungs(self):
        # A rung that is split into two unlike ones gains more where these point; each way has another rung whole.
        ways = []
        for left_whole in range(4):
            ladder = []
            for number in range(4):
                pay = Fraction(8 - 2 * number, 16)
                parts = [(pay + Fraction(1, 32), Fraction(1, 16)), (pay - Fraction(1, 32), Fraction(1, 16))]
                if number == left_whole:
                    parts = [(2 * pay, Fraction(1, 8))]
                ladder.extend([(as_amount(pay), as_amount(fall)) for pay, fall in parts])
            ways.append(chain(tuple(ladder)))
        for habit in HABITS:
            self.assertEqual(best_in(tuple(ways), (), habit), [0, 1, 2, 3])
            self.judge(tuple(ways), habit)
            self.assertEqual(len(two_companies(tuple(ways), habit)[0]), 3)

    def test_a_further_rung_leaves_only_some_of_the_best(self):
        source = random.Random(197)
        fewer = 0
        for _ in range(400):
            ways, habit = random_ways(source)
            ladders = [counted(way, habit) for way in ways]
            company, rung = small_ladder(source, 1), ((source.randint(1, 4), 1), (source.choice([1, -1]), 1))
            if min([1] + [top for top, _ in weights_left(company)]) > 0 and go_with(ways, [*company, rung], habit):
                best = best_of(ladders, company, habit)
                more = with_some_of(ladders, company, rung, habit)
                self.assertTrue(is_ladder(more))
                self.assertGreater(min([top for top, _ in weights_left(more)]), 0)
                self.assertEqual([number for number in best_of(ladders, more, habit) if number not in best], [])
                fewer += best_of(ladders, more, habit) != best
        self.assertGreater(fewer, 0)

    def test_all_ways_must_go_with_a_company(self):
        source = random.Random(195)
        count = 0
        while count < 6:
            ways, habit = random_ways(source)
            best = best_everywhere(ways, habit)
            if len(ways) > 2 and best and not all([never_worse(ways[best[0]], way, habit) for way in ways]):
                # Two by two there are companies that tell them apart, but not all ways go with any such one.
                count += 1
                for way in ways:
                    company = worse_in(ways[best[0]], way, habit)
                    self.assertTrue(company is None or not goes_with(ways, company, habit))

    def test_long_ways(self):
        source = random.Random(196)
        for number in range(12):
            ways = tuple([long_chain(source, 15, END) for _ in range(3)] + [long_chain(source, 12, LEAF)])
            self.judge(ways, HABITS[number & 1])

    def test_values_that_are_no_ways(self):
        for value in ODD + [(), (END,) * 5, [END], END, (END, None), (WORK, [END]), None]:
            if value == () or not isinstance(value, tuple) or len(value) > 4 or not all([is_term(entry) for entry in value]):
                self.assertIs(self.told(BadWays, best_in, value, None, None), value)
                self.assertIs(self.told(BadWays, beaten_in, value, None, None), value)
                for function, _ in ALL:
                    self.assertIs(self.told(BadWays, function, value, None), value)
        self.assertEqual(best_everywhere((END,) * 4, "done"), [0, 1, 2, 3])

    def test_values_that_are_no_ladders_and_habits(self):
        for value in ODD:
            if not is_ladder(value):
                self.assertIs(self.told(BadLadder, best_in, (WORK, AGAINST), value, None), value)
            self.assertIs(self.told(BadHabit, best_in, (WORK, AGAINST), (), value), value)
            self.assertIs(self.told(BadHabit, beaten_in, (WORK, AGAINST), None, value), value)
            for function, _ in ALL:
                self.assertIs(self.told(BadHabit, function, (WORK, AGAINST), value), value)

    def test_ways_that_do_not_fit(self):
        for ways, habit in (((WORK, END, AGAINST), "done"), ((DOWN,), "free"), ((END, ("all", (WORK, AGAINST))), "done")):
            for function, values in ALL:
                self.assertIs(self.told(NoFit, function, ways, habit, *values), ways)
            self.assertIs(self.told(NoFit, best_in, ways, (((-1, 1), (-3, 1)),), habit), ways)
            self.assertIs(self.told(NoFit, beaten_in, ways, None, habit), ways)
        company = (((-2, 1), (-1, 1)),)
        self.assertIs(self.told(NoCompany, best_in, (WORK, END), company, "done"), company)
        self.assertEqual(outcome_of(best_in, (END, END), (((0, 1), (-1, 1)),), "free")[1], "NoCompany")

    def test_values_that_are_no_numbers(self):
        ways = (WORK, MORE)
        for value in ODD + [2, -1, True, False, "0", 0.0, (0,), [0], None]:
            if isinstance(value, bool) or value not in (0, 1) or isinstance(value, float):
                self.assertIs(self.told(BadNumber, beaten_in, ways, value, "done"), value)
        self.assertEqual(beaten_in(ways, 0, "free"), ())


if __name__ == "__main__":
    unittest.main()
