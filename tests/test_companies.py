import random
import unittest

from onenumber.algebra import side_by_side
from onenumber.companies import alike, counted, goes_with, lots, paying, worth_in
from onenumber.errors import BadLadder, BadTerm, BadTerms, NoCompany, NoFit
from onenumber.frames import find_witness
from onenumber.ladders import chain, is_ladder, pays
from onenumber.numbers import ladder_of
from onenumber.terms import all_steps, is_term, step_pair
from onenumber.worths import ladder_worth, worth
from tests.values import (
    END,
    HALF,
    LEAF,
    NOTHING,
    ODD,
    ONE,
    ZERO,
    outcome_of,
    random_ladder,
    random_term,
)

HABITS = ("done", "free")
LEAVING = ((0, 1), (1, 1))
WORK = ("step", (1, 1), ((HALF, END),))
AGAINST = ("step", (-2, 1), (((2, 1), END),))
DOWN = ("step", (0, 1), (((2, 1), END),))
UNFRAMED = ("all", (WORK, AGAINST))
MANY = tuple([((64 - number, 1), (1, 100)) for number in range(64)])


def pairs_in_question(terms, company, habit):
    pairs = [step_pair(step) for term in terms for step in all_steps(term)]
    return [pair for pair in pairs if pair != NOTHING] + list(company) + ([LEAVING] if habit == "free" else [])


class Companies(unittest.TestCase):
    def told(self, kind, function, *values):
        with self.assertRaises(kind) as caught:
            function(*values)
        return caught.exception.value

    def test_which_go(self):
        self.assertIs(goes_with((WORK, END), (), "done"), True)
        self.assertIs(goes_with((WORK, AGAINST), (), "done"), False)
        self.assertIs(goes_with((WORK,), (((-2, 1), (-1, 1)),), "done"), False)
        self.assertIs(goes_with((DOWN,), (), "done"), True)
        self.assertIs(goes_with((DOWN,), (), "free"), False)
        self.assertIs(goes_with((END,), (((0, 1), (-1, 1)),), "free"), False)
        toss = ("step", ZERO, ((ONE, END),))
        self.assertIs(goes_with((toss,) * 6, (((0, 1), (-1, 1)),), "done"), True)

    def test_which_go_at_random(self):
        source = random.Random(161)
        for _ in range(300):
            terms = tuple([random_term(source, 10) for _ in range(source.randint(1, 3))])
            company, habit = random_ladder(source, 2), source.choice(HABITS)
            pairs = pairs_in_question(terms, company, habit)
            self.assertIs(goes_with(terms, company, habit), find_witness(pairs) is not None)

    def test_worths(self):
        source = random.Random(162)
        count = 0
        while count < 250:
            term, company, habit = random_term(source, 14), random_ladder(source, 3), source.choice(HABITS)
            if not goes_with((term,), company, habit):
                if goes_with((term,), (), habit):
                    self.assertIs(self.told(NoCompany, worth_in, term, company, habit), company)
                else:
                    self.assertEqual(self.told(NoFit, worth_in, term, company, habit), (term,))
                continue
            count += 1
            told = worth_in(term, company, habit)
            self.assertEqual(told, ladder_worth(side_by_side([ladder_of(term), company]), habit))
            mix = (term, chain(company))
            if outcome_of(worth, mix, habit)[0] == "returned":
                self.assertEqual(told, worth(mix, habit))

    def test_companies_of_many_rungs(self):
        # 80 pairs are too many for stage 4, and 64 rungs beside others for stage 9.
        term = END
        for number in range(16):
            term = ("step", (number + 1, 17), (((99, 100), term),))
        self.assertEqual(len(MANY), 64)
        for habit in HABITS:
            self.assertIs(goes_with((term,) * 6, MANY, habit), True)
            told = worth_in(term, MANY, habit)
            self.assertGreater(told[0], 0)
            self.assertEqual(worth_in(END, MANY, habit), pays(MANY))
            self.assertEqual(worth_in(LEAF, (), habit), ONE)

    def test_paying(self):
        self.assertEqual(paying(()), ())
        self.assertEqual(paying((((2, 1), (-1, 2)), ((1, 2), ZERO), ((0, 1), HALF), ((-1, 1), HALF))),
                         (((2, 1), (-1, 2)), ((1, 2), ZERO)))
        # It is no matter whether the ladder fits free, nor where in it the paying rungs stand.
        self.assertEqual(paying((((-1, 1), (-1, 1)), ((1, 1), (-1, 1)))), (((1, 1), (-1, 1)),))

    def test_counted(self):
        costs = ("step", (-1, 1), ((HALF, END),))
        mix = ("all", (costs, WORK, ("step", ZERO, ((HALF, END),))))
        self.assertEqual(counted(mix, "done"), ladder_of(mix))
        self.assertEqual(len(counted(mix, "done")), 3)
        self.assertEqual(counted(mix, "free"), (((1, 1), HALF),))
        self.assertEqual([counted(END, habit) for habit in HABITS], [(), ()])

    def test_alike(self):
        self.assertIs(alike(("all", (WORK, LEAF)), ("all", (LEAF, WORK)), "done"), True)
        self.assertIs(alike(WORK, LEAF, "done"), False)
        costs, more = ("step", (-1, 1), ((HALF, END),)), ("step", (-2, 1), ((HALF, END),))
        self.assertIs(alike(costs, more, "done"), False)
        self.assertIs(alike(costs, more, "free"), True)
        self.assertIs(alike(END, ("step", ZERO, ((HALF, END),)), "done"), False)
        self.assertIs(alike(END, ("step", ZERO, ((HALF, END),)), "free"), True)
        self.assertIs(alike(END, ("step", ZERO, ((ONE, END),)), "done"), True)
        # What stands behind a paying rung counts by free where it is glued to it.
        self.assertIs(alike(("step", ONE, ((HALF, costs),)), ("step", ONE, ((HALF, END),)), "free"), True)
        self.assertIs(alike(("step", (-1, 1), ((HALF, LEAF),)), ("step", (-1, 1), ((HALF, ("step", (8, 1), ())),)), "free"),
                      False)

    def test_alike_at_random(self):
        source = random.Random(163)
        for _ in range(200):
            one, other, habit = random_term(source, 6), random_term(source, 6), source.choice(HABITS)
            if not goes_with((one, other), (), habit):
                self.assertEqual(self.told(NoFit, alike, one, other, habit), (one, other))
                continue
            self.assertIs(alike(one, other, habit), counted(one, habit) == counted(other, habit))

    def test_lots(self):
        costs = ("step", (-1, 1), ((HALF, END),))
        self.assertEqual(lots((WORK, LEAF, WORK, END, LEAF, WORK), "done"), [[0, 2, 5], [1, 4], [3]])
        self.assertEqual(lots((END, costs, WORK, costs), "done"), [[0], [1, 3], [2]])
        self.assertEqual(lots((END, costs, WORK, costs), "free"), [[0, 1, 3], [2]])
        self.assertEqual(lots((END,), "free"), [[0]])

    def test_terms_that_do_not_fit(self):
        for function, values, right in ((worth_in, (UNFRAMED, (), "done"), (UNFRAMED,)),
                                        (worth_in, (DOWN, (), "free"), (DOWN,)),
                                        (counted, (UNFRAMED, "done"), (UNFRAMED,)), (counted, (DOWN, "free"), (DOWN,)),
                                        (alike, (WORK, AGAINST, "done"), (WORK, AGAINST)),
                                        (alike, (DOWN, DOWN, "free"), (DOWN, DOWN)),
                                        (lots, ((WORK, END, AGAINST), "done"), (WORK, END, AGAINST)),
                                        (lots, ((DOWN,), "free"), (DOWN,))):
            self.assertEqual(self.told(NoFit, function, *values), right)
        self.assertIs(goes_with((UNFRAMED,), (), "done"), False)
        # A term that does not fit comes ahead of a company with which it does not go.
        self.assertEqual(self.told(NoFit, worth_in, UNFRAMED, (((-2, 1), (-1, 1)),), "done"), (UNFRAMED,))
        self.assertEqual(self.told(NoCompany, worth_in, WORK, (((-2, 1), (-1, 1)),), "done"), (((-2, 1), (-1, 1)),))
        self.assertEqual(self.told(NoCompany, worth_in, END, (((0, 1), (-1, 1)),), "free"), (((0, 1), (-1, 1)),))

    def test_tuples_of_terms(self):
        for value in ODD + [(), (END,) * 7, [END], END, (END, None), (END, [END]), None, (WORK, ("end", 1))]:
            if value == () or not isinstance(value, tuple) or len(value) > 6 or not all([is_term(entry) for entry in value]):
                self.assertIs(self.told(BadTerms, goes_with, value, None, None), value)
                self.assertIs(self.told(BadTerms, lots, value, None), value)
        self.assertIs(goes_with((END,) * 6, (), "done"), True)
        self.assertEqual(lots((END,) * 6, "done"), [[0, 1, 2, 3, 4, 5]])

    def test_any_values(self):
        for value in ODD:
            if not is_term(value):
                for function, values in ((worth_in, (None, None)), (counted, (None,)), (alike, (None, None))):
                    self.assertIs(self.told(BadTerm, function, value, *values), value)
                self.assertIs(self.told(BadTerm, alike, END, value, None), value)
            if not is_ladder(value):
                self.assertIs(self.told(BadLadder, paying, value), value)
                self.assertIs(self.told(BadLadder, worth_in, END, value, None), value)
                self.assertIs(self.told(BadLadder, goes_with, (END,), value, None), value)


if __name__ == "__main__":
    unittest.main()
