import random
import unittest
from fractions import Fraction

from onenumber.algebra import side_by_side
from onenumber.errors import BadFraction, BadHabit, BadLadder, BadLadders, BadMix, NoFrame
from onenumber.floors import floor
from onenumber.frames import is_ring
from onenumber.ladders import chain, is_ladder, pays
from onenumber.numbers import ladder_of, mix_ladder
from onenumber.terms import is_mix, pairs_of
from onenumber.worths import beside, company_worth, ladder_worth, worth
from tests.values import (
    BIG,
    END,
    HALF,
    LEAF,
    NOTHING,
    ODD,
    ONE,
    ZERO,
    as_amount,
    as_fraction,
    digits,
    outcome_of,
    random_fitting_mix,
    random_fraction,
    random_ladder,
    random_pair,
    random_term,
)

LEAVING = ((0, 1), (1, 1))
HABITS = ("done", "free")
FALLING = (((1, 1), HALF), ((-2, 1), (1, 4)))
# It has a frame, but none with leaving.
BACK = (((-1, 1), (-1, 1)),)
# The two have a frame, but none with leaving.
UNFRAMED = (((-1, 1), (-1, 1)), ((1, 1), (-1, 1)))


def is_habit(value):
    return isinstance(value, str) and value in HABITS


class Worths(unittest.TestCase):
    def told(self, kind, function, *values):
        with self.assertRaises(kind) as caught:
            function(*values)
        return caught.exception.value

    def test_ladders(self):
        self.assertEqual([ladder_worth((), habit) for habit in HABITS], [ZERO, ZERO])
        self.assertEqual([ladder_worth(FALLING, habit) for habit in HABITS], [(-1, 1), (1, 1)])
        level = (((1, 1), HALF), ((0, 1), (1, 4)), ((-1, 1), (1, 4)))
        self.assertEqual([ladder_worth(level, habit) for habit in HABITS], [ZERO, ONE])
        self.assertEqual(ladder_worth(BACK, "done"), (-1, 1))

    def test_a_ladder_must_fit_free(self):
        ring = self.told(NoFrame, ladder_worth, UNFRAMED, "free")
        self.assertTrue(is_ring([*UNFRAMED, LEAVING], ring))
        # The pair of leaving stands behind the rungs.
        self.assertEqual(ladder_worth((((1, 1), (-1, 1)),), "free"), (1, 1))
        self.assertEqual([number for number, _ in self.told(NoFrame, ladder_worth, (((0, 1), (-1, 1)),), "free")], [0, 1])

    def test_mixes_are_worth_their_floors(self):
        source = random.Random(121)
        for habit in HABITS:
            for _ in range(250):
                mix = random_fitting_mix(source, habit)
                self.assertEqual(worth(mix, habit), floor(mix, habit), (mix, habit))
                self.assertEqual(worth(mix, habit), ladder_worth(mix_ladder(mix), habit))

    def test_mixes_by_free_need_a_frame_with_leaving(self):
        down = ("step", (0, 1), (((2, 1), END),))
        toss = ("step", (0, 1), ((ONE, END),))
        self.assertEqual(worth((down,), "done"), ZERO)
        self.assertTrue(is_ring([((0, 1), (-1, 1)), LEAVING], self.told(NoFrame, worth, (toss, down), "free")))
        source = random.Random(122)
        count = 0
        while count < 100:
            mix = (random_term(source, 12), random_term(source, 12))
            habit = source.choice(HABITS)
            told = outcome_of(worth, mix, habit)
            if told[0] == "raised":
                count += 1
                pairs = [pair for term in mix for pair in pairs_of(term) if pair != NOTHING]
                self.assertEqual(told[1], "NoFrame")
                self.assertTrue(is_ring(pairs + [LEAVING] if habit == "free" else pairs, told[2]), (mix, habit))

    def test_free_takes_what_pays_alone(self):
        costs = ("step", (-1, 1), ((HALF, LEAF),))
        self.assertEqual([worth((costs,), habit) for habit in HABITS], [(-1, 2), ZERO])
        self.assertEqual([worth((END,), habit) for habit in HABITS], [ZERO, ZERO])
        nothing = ("step", (0, 1), ((HALF, END),))
        self.assertEqual([worth((nothing, LEAF), habit) for habit in HABITS], [ONE, ONE])

    def test_companies(self):
        source = random.Random(123)
        for _ in range(200):
            ladders = tuple([random_ladder(source, 3) for _ in range(source.randint(1, 4))])
            habit = source.choice(HABITS)
            rungs = [rung for ladder in ladders for rung in ladder] + ([LEAVING] if habit == "free" else [])
            told = outcome_of(company_worth, ladders, habit)
            if told[0] == "raised":
                self.assertEqual(told[1], "NoFrame")
                self.assertTrue(is_ring(rungs, told[2]))
                continue
            joint = side_by_side(ladders)
            self.assertEqual(told[1], ladder_worth(joint, habit))
            self.assertEqual(told[1], worth(tuple([chain(ladder) for ladder in ladders]), habit))

    def test_companies_of_many_rungs(self):
        # The bounds of stages 4, 8 and 9 are not told here.
        long = tuple([((64 - number, 1), (1, 100)) for number in range(64)])
        self.assertEqual(company_worth((long,), "done"), pays(long))
        falling = company_worth((long, long, long, long), "done")
        self.assertGreater(falling[0], 0)
        self.assertEqual(company_worth((long, long), "free"), company_worth((long, long), "done"))
        against = (((-1, 1), (-1, 100)),)
        self.assertIn(256 - 64, [number for number, _ in self.told(NoFrame, company_worth, (long, long, long, against),
                                                                   "done")])

    def test_rings_of_long_ladders(self):
        # Their rungs have hundreds of digits, and so do the shares; but no more than 400.
        source = random.Random(126)

        def amount():
            return as_amount(Fraction(source.randint(1, BIG) * source.choice([1, -1]), source.randint(1, BIG)))

        def tilted(count):
            term = END
            while count:
                pay, weight = amount(), amount()
                if 0 < weight[0] and as_fraction(pay) > 3 - 3 * as_fraction(weight):
                    term, count = ("step", pay, ((weight, term),)), count - 1
            return term

        longest = 0
        for _ in range(60):
            mix = source.choice([(tilted(8), tilted(8)), (tilted(15), tilted(1))])
            ladders = tuple([ladder_of(term) for term in mix])
            for function, value, rungs in ((ladder_worth, mix_ladder(mix), mix_ladder(mix)),
                                           (company_worth, ladders, ladders[0] + ladders[1])):
                told = outcome_of(function, value, "free")
                if told[0] == "raised":
                    self.assertTrue(is_ring([*rungs, LEAVING], told[2]))
                    longest = max(longest, digits([share for _, share in told[2]]))
        self.assertGreater(longest, 200)
        self.assertLessEqual(longest, 400)

    def test_beside(self):
        source = random.Random(124)
        for _ in range(300):
            ladder, pay = random_ladder(source, 3), random_fraction(source, 4)
            factor = source.choice([ZERO, ONE, HALF, (2, 1), (1, 3), (7, 2)])
            habit = source.choice(HABITS)
            step = ("step", pay, () if factor == ZERO else ((factor, END),))
            told = outcome_of(beside, ladder, pay, factor, habit)
            self.assertEqual(told[0], outcome_of(worth, (chain(ladder), step), habit)[0], (ladder, step, habit))
            if told[0] == "returned":
                self.assertEqual(told[1], worth((chain(ladder), step), habit))
                continue
            pairs = list(ladder) + [pair for pair in pairs_of(step) if pair != NOTHING]
            self.assertTrue(is_ring(pairs + [LEAVING] if habit == "free" else pairs, told[2]))

    def test_beside_a_toss(self):
        for ladder in (FALLING, ()):
            for habit in HABITS:
                self.assertEqual(beside(ladder, ZERO, ONE, habit), ladder_worth(ladder, habit))
        self.assertEqual([number for number, _ in self.told(NoFrame, beside, (((0, 1), (-1, 1)),), ZERO, ONE, "free")],
                         [0, 1])

    def test_beside_steps_of_all_factors(self):
        self.assertEqual(beside((((4, 1), (1, 1)),), (5, 1), ONE, "done"), (9, 1))
        self.assertEqual(beside((((4, 1), (1, 1)),), (5, 1), (3, 1), "done"), (17, 1))
        self.assertEqual(beside((), (-5, 1), ZERO, "free"), ZERO)
        self.assertEqual(beside((), (-5, 1), ZERO, "done"), (-5, 1))

    def test_values_that_are_none(self):
        for value in ODD:
            if not is_ladder(value):
                self.assertIs(self.told(BadLadder, ladder_worth, value, "done"), value)
                self.assertIs(self.told(BadLadder, beside, value, ONE, ONE, "done"), value)
            if not is_mix(value):
                self.assertIs(self.told(BadMix, worth, value, "done"), value)
            if not is_habit(value):
                for function, values in ((ladder_worth, [()]), (worth, [(END,)]), (company_worth, [((),)]),
                                         (beside, [(), ONE, ONE])):
                    self.assertIs(self.told(BadHabit, function, *values, value), value)
        for value in ("Done", "done ", "FREE", b"done", ("done",), ["free"], "", 0, True, None):
            self.assertIs(self.told(BadHabit, worth, (END,), value), value)

    def test_tuples_of_ladders(self):
        ladder = (((1, 1), (1, 1)),)
        for value in ODD + [(), [ladder], (ladder,) * 5, ladder, (ladder, None), (ladder, [((1, 1), (1, 1))]), None]:
            if value != ((),):
                self.assertIs(self.told(BadLadders, company_worth, value, "done"), value)
        self.assertEqual(company_worth((ladder,) * 4, "done"), ONE)

    def test_fractions_of_a_step(self):
        for value in ODD + [(2, 4), (1, 0)]:
            told = outcome_of(beside, (), value, ONE, "done")
            if told[0] == "raised":
                self.assertEqual(told[1], "BadFraction")
                self.assertIs(self.told(BadFraction, beside, (), value, (-1, 2), "maybe"), value)
        for value in [(-1, 2), (2, 4), (1, 0), None, True, 1, [1, 2], (True, 1), (0, 2)]:
            self.assertIs(self.told(BadFraction, beside, (), ONE, value, "maybe"), value)

    def test_which_error_is_first(self):
        self.assertEqual(self.told(BadLadder, ladder_worth, None, "maybe"), None)
        self.assertEqual(self.told(BadHabit, ladder_worth, UNFRAMED, "maybe"), "maybe")
        self.assertEqual(self.told(BadMix, worth, None, "maybe"), None)
        self.assertEqual(self.told(BadHabit, worth, (("step", (1, 1), ((HALF, END),)), ("step", (-2, 1), (((2, 1), END),))),
                                   "maybe"), "maybe")
        self.assertEqual(self.told(BadLadders, company_worth, 7, "maybe"), 7)
        self.assertEqual(self.told(BadHabit, company_worth, (FALLING, BACK), "maybe"), "maybe")
        self.assertEqual(self.told(BadLadder, beside, 7, 8, 9, 10), 7)
        self.assertEqual(self.told(BadFraction, beside, (), 8, 9, 10), 8)
        self.assertEqual(self.told(BadFraction, beside, (), ONE, 9, 10), 9)
        self.assertEqual(self.told(BadHabit, beside, UNFRAMED, ONE, ONE, 10), 10)

    def test_random_pairs_as_ladders_of_one_rung(self):
        source = random.Random(125)
        for _ in range(100):
            pair = random_pair(source, 3)
            if is_ladder((pair,)):
                self.assertEqual(ladder_worth((pair,), "done"), pair[0])
                self.assertEqual(ladder_of(chain((pair,))), (pair,))


if __name__ == "__main__":
    unittest.main()
