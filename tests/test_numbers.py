import random
import unittest

from onenumber.algebra import glue, put_together, side_by_side
from onenumber.errors import BadMix, BadTerm, NoFrame
from onenumber.floors import floor
from onenumber.frames import is_ring
from onenumber.ladders import chain, is_ladder, pays
from onenumber.numbers import ladder_of, mix_ladder, numbers
from onenumber.pairs import spread
from onenumber.states import size
from onenumber.terms import is_mix, is_term, is_toss, pair_of, pairs_of, steps
from tests.values import (
    END,
    HALF,
    LEAF,
    NOTHING,
    ODD,
    outcome_of,
    random_fitting_mix,
    random_framed_term,
    random_ladder,
    random_term,
)

TOSS = ("step", (0, 1), ((HALF, LEAF), (HALF, END)))
# Work, and a filter whose pair points against it: no frame.
WORK = ("step", (1, 1), ((HALF, END),))
AGAINST = ("step", (-2, 1), (((2, 1), END),))
# More is left behind this step than ahead of it.
GROWS = ("step", (3, 1), (((2, 1), ("step", (2, 1), ())),))


def pairs_no_toss(terms):
    return [pair for term in terms for pair in pairs_of(term) if pair != NOTHING]


class Ladders(unittest.TestCase):
    def test_single_ones(self):
        self.assertEqual(ladder_of(END), ())
        self.assertEqual(ladder_of(LEAF), (((1, 1), (1, 1)),))
        self.assertEqual(ladder_of(TOSS), (((1, 2), (1, 2)),))
        self.assertEqual(ladder_of(("all", (END, ("all", (END, END))))), ())

    def test_rungs_behind_that_are_ahead_are_added(self):
        # 9/2 of 1/2 is ahead of 1 of 1/2, 1/4 of 1/4 is level with it and put together, 1/8 of 1/2 stays.
        for inner, right in (((9, 1), (((11, 2), (1, 1)),)), ((1, 1), (((1, 1), (1, 2)), ((1, 2), (1, 2)))),
                             ((2, 1), (((2, 1), (1, 1)),))):
            term = ("step", (1, 1), ((HALF, ("step", inner, ())),))
            self.assertEqual(ladder_of(term), right, inner)

    def test_falls_of_0_and_below(self):
        self.assertEqual(ladder_of(GROWS), (((3, 1), (-1, 1)), ((4, 1), (2, 1))))
        sure = ("step", (5, 1), (((1, 1), LEAF),))
        self.assertEqual(ladder_of(sure), (((5, 1), (0, 1)), ((1, 1), (1, 1))))
        self.assertEqual(ladder_of(("all", (sure, GROWS))),
                         (((3, 1), (-1, 1)), ((10, 1), (0, 1)), ((4, 1), (2, 1))))

    def test_level_rungs_side_by_side(self):
        self.assertEqual(ladder_of(("all", (WORK, WORK))), (((3, 2), (3, 4)),))
        self.assertEqual(ladder_of(("all", (LEAF, LEAF, LEAF))), (((1, 1), (1, 1)),))

    def test_the_weights_of_outcomes(self):
        term = ("step", (0, 1), (((1, 3), ("step", (4, 1), ())), ((1, 6), ("step", (6, 1), ())), (HALF, WORK)))
        self.assertEqual(ladder_of(term), (((1, 1), (1, 6)), ((4, 3), (1, 3)), ((1, 2), (1, 4))))

    def test_they_follow_from_those_beneath(self):
        source = random.Random(101)
        for _ in range(300):
            term = random_framed_term(source)
            for part in (term,) + tuple(steps(term)):
                self.assertEqual(ladder_of(part), self.from_beneath(part), part)
                self.assertTrue(is_ladder(ladder_of(part)), part)

    def from_beneath(self, term):
        if term[0] == "all":
            return side_by_side([ladder_of(inner) for inner in term[1]])
        if term == END:
            return ()
        rungs = [spread(rung, weight) for weight, inner in term[2] for rung in ladder_of(inner)]
        return put_together(rungs) if is_toss(term) else glue(pair_of(term), rungs)

    def test_they_stand_for_terms_beside_others(self):
        source = random.Random(102)
        count = 0
        while count < 200:
            term, chained = random_framed_term(source, 12), chain(random_ladder(source, 3))
            mix = (term, chained)
            if not is_mix(mix) or size(mix) > 400 or outcome_of(mix_ladder, mix)[0] == "raised":
                continue
            count += 1
            self.assertEqual(floor(mix, "done"), pays(side_by_side([ladder_of(term), ladder_of(chained)])), mix)

    def test_chains_have_their_ladders(self):
        source = random.Random(103)
        for _ in range(200):
            ladder = random_ladder(source, 6)
            self.assertEqual(ladder_of(chain(ladder)), ladder)

    def test_mixes(self):
        source = random.Random(104)
        for _ in range(100):
            mix = random_fitting_mix(source, "done")
            self.assertEqual(mix_ladder(mix), side_by_side([ladder_of(term) for term in mix]))
            if 2 <= len(mix) <= 3 and is_term(("all", mix)):
                self.assertEqual(mix_ladder(mix), ladder_of(("all", mix)))
            self.assertEqual(mix_ladder((mix[0],)), ladder_of(mix[0]))

    def test_long_ones(self):
        term = END
        for number in range(16):
            term = ("step", (999999999989 - number, 999999999961), (((999999999959 - number, 999999999989), term),))
        wide = ("all", (("all", (LEAF, WORK, WORK)), ("all", (WORK, WORK, TOSS)), ("all", (WORK, LEAF, WORK))))
        for long in (term, wide):
            self.assertTrue(is_ladder(ladder_of(long)))
            self.assertEqual(len(numbers(long)), len(steps(long)))


class Numbers(unittest.TestCase):
    def test_tosses_and_glued_steps(self):
        late = ("step", (1, 1), ((HALF, ("step", (9, 1), ())),))
        self.assertEqual(numbers(("step", (0, 1), ((HALF, late), (HALF, TOSS)))),
                         ["toss", ((11, 2), (1, 1)), ((9, 1), (1, 1)), "toss", ((1, 1), (1, 1))])
        self.assertEqual(numbers(END), [])
        self.assertEqual(numbers(("all", (LEAF, GROWS))),
                         [((1, 1), (1, 1)), ((3, 1), (-1, 1)), ((2, 1), (1, 1))])

    def test_level_rungs_behind_are_in_a_number(self):
        # What is level with the step is put together with it.
        self.assertEqual(numbers(("step", (1, 1), ((HALF, ("step", (2, 1), ())),)))[0], ((2, 1), (1, 1)))

    def test_they_are_the_foremost_rungs(self):
        source = random.Random(105)
        for _ in range(200):
            term = random_framed_term(source)
            told = ["toss" if is_toss(step) else ladder_of(step)[0] for step in steps(term)]
            self.assertEqual(numbers(term), told)


class Errors(unittest.TestCase):
    def test_values_that_are_no_terms(self):
        for value in ODD:
            for function, kind, is_right in ((ladder_of, BadTerm, is_term), (numbers, BadTerm, is_term),
                                             (mix_ladder, BadMix, is_mix)):
                if not is_right(value):
                    with self.assertRaises(kind) as caught:
                        function(value)
                    self.assertIs(caught.exception.value, value)

    def test_rings_are_of_steps_that_are_no_tosses(self):
        term = ("all", (TOSS, ("step", (0, 1), (((1, 1), WORK),)), AGAINST))
        for function, value in ((ladder_of, term), (numbers, term), (mix_ladder, (TOSS, WORK, AGAINST))):
            with self.assertRaises(NoFrame) as caught:
                function(value)
            self.assertEqual([number for number, _ in caught.exception.value], [1, 2])
            self.assertTrue(is_ring([((1, 1), (1, 1)), ((1, 1), HALF), ((-2, 1), (-1, 1))], caught.exception.value))

    def test_rings_of_random_terms(self):
        source = random.Random(106)
        count = 0
        while count < 100:
            mix = (random_term(source, 12), random_term(source, 12))
            kind = outcome_of(mix_ladder, mix)
            if not is_mix(mix) or kind[0] == "returned":
                continue
            count += 1
            self.assertEqual(kind[1], "NoFrame")
            self.assertTrue(is_ring(pairs_no_toss(mix), kind[2]), mix)
            for term in mix:
                told = outcome_of(ladder_of, term)
                self.assertEqual(told, outcome_of(numbers, term) if told[0] == "raised" else told)
                if told[0] == "raised":
                    self.assertTrue(is_ring(pairs_no_toss([term]), told[2]), term)

    def test_terms_of_a_mix_need_a_frame_together(self):
        self.assertEqual(ladder_of(WORK), (((1, 1), HALF),))
        self.assertEqual(ladder_of(AGAINST), (((-2, 1), (-1, 1)),))
        self.assertRaises(NoFrame, mix_ladder, (WORK, AGAINST))


if __name__ == "__main__":
    unittest.main()
