import random
import unittest

from onenumber.companies import alike, goes_with, worth_in
from onenumber.errors import BadHabit, BadTerm, NoFit
from onenumber.ladders import chain, is_ladder
from onenumber.parting import is_parting, parting
from onenumber.terms import is_term
from tests.values import (
    END,
    HALF,
    LEAF,
    ODD,
    ONE,
    ZERO,
    digits,
    long_chain,
    near,
    outcome_of,
    random_ladder,
    random_term,
    small_ladder,
)

HABITS = ("done", "free")
WORK = ("step", (1, 1), ((HALF, END),))
AGAINST = ("step", (-2, 1), (((2, 1), END),))
DOWN = ("step", (0, 1), (((2, 1), END),))
MANY = tuple([((64 - number, 1), (1, 100)) for number in range(64)])


class Parting(unittest.TestCase):
    def judge(self, one, other, habit):
        company = parting(one, other, habit)
        if alike(one, other, habit):
            self.assertIsNone(company)
            return company
        self.assertTrue(is_ladder(company), (one, other, habit))
        self.assertLessEqual(len(company), 1)
        self.assertIs(goes_with((one, other), company, habit), True, (one, other, habit))
        self.assertNotEqual(worth_in(one, company, habit), worth_in(other, company, habit), (one, other, habit))
        self.assertIs(is_parting(one, other, habit, company), True)
        self.assertLessEqual(max([digits(rung) for rung in company], default=0), 400)
        return company

    def test_random_terms(self):
        source = random.Random(171)
        count = 0
        while count < 200:
            one, other, habit = random_term(source, 10), random_term(source, 10), source.choice(HABITS)
            if goes_with((one, other), (), habit):
                count += 1
                self.judge(one, other, habit)

    def test_terms_of_the_same_pays(self):
        source = random.Random(172)
        parted = {0: 0, 1: 0, None: 0}
        for _ in range(400):
            habit, total = source.choice(HABITS), source.randint(-2, 3)
            one, other = chain(small_ladder(source, 2, total)), chain(small_ladder(source, 2, total))
            if goes_with((one, other), (), habit):
                company = self.judge(one, other, habit)
                parted[None if company is None else len(company)] += 1
        self.assertGreater(parted[1], 20)
        self.assertGreater(parted[0], 0)

    def test_terms_whose_pairs_are_level(self):
        # They pay the same, and only rungs that point elsewhere tell them apart.
        for one, other in ((END, ("step", ZERO, ((HALF, END),))), (("step", ZERO, ()), ("step", ZERO, ((HALF, END),))),
                           (("step", ZERO, (((3, 1), END),)), ("step", ZERO, (((5, 1), END),)))):
            company = self.judge(one, other, "done")
            self.assertEqual(len(company), 1)
        self.assertIsNone(parting(END, ("step", ZERO, ((HALF, END),)), "free"))

    def test_pays_of_the_same_sum_with_a_rung_of_fall_0(self):
        one = ("all", (("step", ONE, ((ONE, END),)), ("step", ONE, ((HALF, END),))))
        other = ("step", (2, 1), ((HALF, END),))
        self.assertEqual(len(self.judge(one, other, "done")), 1)
        self.assertEqual(len(self.judge(one, other, "free")), 1)

    def test_alike_terms(self):
        self.assertIsNone(parting(("all", (WORK, LEAF)), ("all", (LEAF, WORK)), "free"))
        self.assertIsNone(parting(END, ("step", ZERO, ((ONE, END),)), "done"))
        costs, more = ("step", (-1, 1), ((HALF, END),)), ("step", (-2, 1), ((HALF, END),))
        self.assertIsNone(parting(costs, more, "free"))
        self.assertEqual(parting(costs, more, "done"), ())

    def test_long_terms(self):
        source = random.Random(173)
        for number in range(40):
            habit = HABITS[number & 1]
            last = ("step", ONE, ((HALF, END),))
            closed = ("all", (("step", ONE, (((1, 3), END),)), ("step", ZERO, (((3, 4), END),))))
            one, other = long_chain(source, 13, last), long_chain(source, 14, END)
            self.judge(one, other, habit)
            # The pays are the same, the falls all but the same.
            state = source.getstate()
            one = long_chain(source, 13, last)
            source.setstate(state)
            other = long_chain(source, 13, closed)
            self.assertEqual(worth_in(one, (), "done"), worth_in(other, (), "done"))
            self.assertEqual(len(self.judge(one, other, "done")), 1)

    def test_the_judge(self):
        for value, right in (((), True), ((((1, 1), (1, 1)),), True), ((((2, 1), (1, 1)),), False),
                             ([((1, 1), (1, 1))], False), (((1, 1), (1, 1)), False), ((((1, 1), (2, 1)),), False),
                             ((((-3, 1), (1, 1)),), False), (MANY, True)):
            one = ("step", (3, 1), (((2, 1), ("step", (2, 1), ())),))
            other = ("step", (1, 1), (((2, 1), ("step", (2, 1), ((HALF, END),))),))
            self.assertIs(is_parting(one, other, "done", value), right, value)

    def test_the_judge_at_random(self):
        source = random.Random(174)
        seen = {True: 0, False: 0}
        while min(list(seen.values())) < 60:
            one, other = chain(small_ladder(source, 2, 1)), chain(small_ladder(source, 2, 1))
            habit, company = source.choice(HABITS), random_ladder(source, 3)
            if goes_with((one, other), (), habit):
                right = goes_with((one, other), company, habit)
                right = right and worth_in(one, company, habit) != worth_in(other, company, habit)
                self.assertIs(is_parting(one, other, habit, company), right)
                seen[right] += 1

    def test_the_judge_of_any_value(self):
        company = (((1, 1), HALF), ((1, 2), HALF))
        self.assertIs(is_parting(WORK, LEAF, "done", company), True)
        for value in ODD + near(company):
            told = is_parting(WORK, LEAF, "done", value)
            self.assertIsInstance(told, bool)
            if not is_ladder(value):
                self.assertIs(told, False)

    def test_errors(self):
        for function, values in ((parting, ()), (is_parting, (None,))):
            for value in ODD:
                if not is_term(value):
                    self.assertEqual(outcome_of(function, value, END, "done", *values)[:2], ("raised", "BadTerm"))
                    with self.assertRaises(BadTerm) as caught:
                        function(END, value, None, *values)
                    self.assertIs(caught.exception.value, value)
                with self.assertRaises(BadHabit) as caught:
                    function(WORK, AGAINST, value, *values)
                self.assertIs(caught.exception.value, value)
            for one, other, habit in ((WORK, AGAINST, "done"), (DOWN, DOWN, "free"), (("all", (WORK, AGAINST)), END, "done")):
                with self.assertRaises(NoFit) as caught:
                    function(one, other, habit, *values)
                self.assertEqual(caught.exception.value, (one, other))


if __name__ == "__main__":
    unittest.main()
