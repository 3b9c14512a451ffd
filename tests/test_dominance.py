import random
import unittest

from onenumber.companies import alike, counted, goes_with, worth_in
from onenumber.dominance import between, is_worse_in, never_worse, worse_in
from onenumber.errors import BadHabit, BadTerm, NoFit
from onenumber.ladders import chain, is_ladder
from onenumber.terms import is_term
from tests.values import (
    END,
    HALF,
    LEAF,
    ODD,
    ONE,
    ZERO,
    as_fraction,
    digits,
    grid_of_companies,
    long_chain,
    near,
    outcome_of,
    random_ladder,
    random_term,
    small_ladder,
)

HABITS = ("done", "free")
WORK = ("step", (1, 1), ((HALF, END),))
MORE = ("step", (2, 1), ((HALF, END),))
AGAINST = ("step", (-2, 1), (((2, 1), END),))
DOWN = ("step", (0, 1), (((2, 1), END),))
GRID = grid_of_companies()
OTHER_WAY = {"alike": "alike", "more": "less", "less": "more", "neither": "neither"}
# Beside each single rung the first is worth at least as much as the second, beside some two rungs it is not.
BY_TWO = (("done", (((3, 1), (-1, 1)), ((4, 1), (2, 1))), (((1, 1), (-1, 1)), ((4, 1), ONE))),
          ("free", (((3, 1), (-1, 1)), ((4, 1), (2, 1))), (((2, 1), (-1, 1)), ((1, 1), ZERO))),
          ("done", (((3, 1), (-1, 1)),), (((2, 1), (-1, 1)), ((-1, 1), ONE))),
          ("done", (((4, 1), (-2, 1)),), (((1, 1), (-2, 1)), (ZERO, ONE))),
          ("free", (((4, 1), (-1, 1)), ((3, 1), ONE)), (((1, 1), (-1, 1)), (ONE, ZERO))))


def random_two(source):
    """Two random terms that fit together by a habit, often of the same pays."""
    while True:
        habit, total = source.choice(HABITS), source.choice([None, None, 0, 1, 3])
        one, other = chain(small_ladder(source, 2, total)), chain(small_ladder(source, 2, total))
        if goes_with((one, other), (), habit):
            return one, other, habit


class Dominance(unittest.TestCase):
    def judge(self, one, other, habit):
        company = worse_in(one, other, habit)
        self.assertIs(never_worse(one, other, habit), company is None)
        if company is not None:
            self.assertTrue(is_ladder(company), (one, other, habit))
            self.assertLessEqual(len(company), 2)
            self.assertIs(goes_with((one, other), company, habit), True)
            less = as_fraction(worth_in(one, company, habit)) < as_fraction(worth_in(other, company, habit))
            self.assertTrue(less, (one, other, habit, company))
            self.assertIs(is_worse_in(one, other, habit, company), True)
            self.assertLessEqual(max([digits(rung) for rung in company], default=0), 400)
        return company

    def never_below(self, one, other, habit, companies):
        for company in companies:
            if goes_with((one, other), company, habit):
                least = as_fraction(worth_in(other, company, habit))
                self.assertGreaterEqual(as_fraction(worth_in(one, company, habit)), least, (one, other, habit, company))

    def test_what_is_never_worse(self):
        self.assertEqual([between(MORE, WORK, habit) for habit in HABITS], ["more", "more"])
        self.assertEqual([between(WORK, MORE, habit) for habit in HABITS], ["less", "less"])
        costs = ("step", (-1, 1), ((HALF, END),))
        self.assertEqual([between(costs, END, habit) for habit in HABITS], ["neither", "alike"])
        self.assertEqual([between(LEAF, WORK, habit) for habit in HABITS], ["neither", "less"])
        self.assertEqual([between(LEAF, ("step", (9, 10), ((HALF, END),)), habit) for habit in HABITS], ["neither"] * 2)
        self.assertEqual([between(END, END, habit) for habit in HABITS], ["alike"] * 2)
        # What leaves more may be done last, and then takes nothing away.
        self.assertEqual([between(("step", ONE, (((2, 1), END),)), END, habit) for habit in HABITS], ["more", "more"])
        self.assertEqual(between(DOWN, END, "done"), "more")
        self.assertEqual(between(("step", (-1, 1), (((2, 1), END),)), END, "done"), "neither")

    def test_companies_that_need_two_rungs(self):
        for habit, ladder, other_ladder in BY_TWO:
            one, other = chain(ladder), chain(other_ladder)
            company = self.judge(one, other, habit)
            self.assertEqual(len(company), 2, (habit, ladder))
            self.never_below(one, other, habit, [single for single in GRID if len(single) < 2])
            self.assertEqual(between(one, other, habit), "neither")

    def test_a_rung_with_a_fall_below_0_that_is_taken_often(self):
        one, other = chain((((3, 1), (-1, 1)),)), chain((((1, 1), (-2, 1)),))
        company = self.judge(one, other, "done")
        self.assertEqual(len(company), 1)
        self.assertEqual(self.judge(other, one, "done"), ())

    def test_random_terms(self):
        source = random.Random(181)
        told = {}
        for _ in range(300):
            one, other, habit = random_two(source)
            company, back = self.judge(one, other, habit), self.judge(other, one, habit)
            if company is None:
                self.never_below(one, other, habit, source.sample(GRID, 40))
            relation = between(one, other, habit)
            self.assertEqual(between(other, one, habit), OTHER_WAY[relation])
            self.assertIs(relation == "alike", alike(one, other, habit))
            self.assertEqual(relation in ("alike", "more"), company is None)
            self.assertEqual(relation in ("alike", "less"), back is None)
            told[relation] = told.get(relation, 0) + 1
        self.assertEqual(sorted(told), ["alike", "less", "more", "neither"])

    def test_what_is_never_worse_beside_a_grid(self):
        source = random.Random(182)
        count = 0
        while count < 12:
            one, other, habit = random_two(source)
            if never_worse(one, other, habit) and not alike(one, other, habit):
                count += 1
                self.never_below(one, other, habit, GRID)

    def test_random_terms_with_tosses(self):
        source = random.Random(183)
        count = 0
        while count < 150:
            one, other, habit = random_term(source, 10), random_term(source, 10), source.choice(HABITS)
            if goes_with((one, other), (), habit):
                count += 1
                if self.judge(one, other, habit) is None:
                    self.never_below(one, other, habit, [random_ladder(source, 3) for _ in range(20)])

    def test_long_terms(self):
        source = random.Random(184)
        for number in range(40):
            habit = HABITS[number & 1]
            one, other = long_chain(source, 15, END), long_chain(source, 16, END)
            self.judge(one, other, habit)
            self.judge(other, one, habit)
            state = source.getstate()
            close = long_chain(source, 15, ("step", (1, 10 ** 12 - 1), ((HALF, END),)))
            source.setstate(state)
            self.judge(long_chain(source, 15, LEAF), close, habit)
            self.assertEqual(between(close, close, habit), "alike")

    def test_the_judge_at_random(self):
        source = random.Random(185)
        seen = {True: 0, False: 0}
        while min(list(seen.values())) < 60:
            one, other, habit = random_two(source)
            company = random_ladder(source, 3)
            right = goes_with((one, other), company, habit)
            right = right and as_fraction(worth_in(one, company, habit)) < as_fraction(worth_in(other, company, habit))
            self.assertIs(is_worse_in(one, other, habit, company), right)
            seen[right] += 1

    def test_the_judge_of_any_value(self):
        company = (((1, 1), HALF), ((1, 2), HALF))
        self.assertIs(is_worse_in(WORK, MORE, "done", company), True)
        self.assertIs(is_worse_in(MORE, WORK, "done", company), False)
        self.assertIs(is_worse_in(WORK, WORK, "done", company), False)
        for value in ODD + near(company):
            told = is_worse_in(WORK, MORE, "done", value)
            self.assertIsInstance(told, bool)
            if not is_ladder(value):
                self.assertIs(told, False)
        # It is a ladder, but does not go with the terms.
        self.assertIs(is_worse_in(WORK, MORE, "done", (((-2, 1), (-1, 1)),)), False)
        many = tuple([((64 - number, 1), (1, 100)) for number in range(64)])
        self.assertIs(is_worse_in(WORK, MORE, "free", many), True)

    def test_errors(self):
        for function, values in ((never_worse, ()), (worse_in, ()), (is_worse_in, (None,)), (between, ())):
            for value in ODD:
                if not is_term(value):
                    self.assertEqual(outcome_of(function, value, END, "done", *values)[:2], ("raised", "BadTerm"))
                    with self.assertRaises(BadTerm) as caught:
                        function(END, value, None, *values)
                    self.assertIs(caught.exception.value, value)
                with self.assertRaises(BadHabit) as caught:
                    function(WORK, AGAINST, value, *values)
                self.assertIs(caught.exception.value, value)
            for one, other, habit in ((WORK, AGAINST, "done"), (DOWN, DOWN, "free"), (("all", (WORK, AGAINST)), END, "done")):
                with self.assertRaises(NoFit) as caught:
                    function(one, other, habit, *values)
                self.assertEqual(caught.exception.value, (one, other))

    def test_by_free_only_what_pays_counts(self):
        source = random.Random(186)
        for _ in range(100):
            one, other, habit = random_two(source)
            if habit == "free":
                paid_one, paid_other = chain(counted(one, "free")), chain(counted(other, "free"))
                # More companies may go with what is left, so it can be worse where the terms themselves are not.
                if never_worse(paid_one, paid_other, "free"):
                    self.assertIs(never_worse(one, other, "free"), True)


if __name__ == "__main__":
    unittest.main()
