import random
import unittest
from fractions import Fraction

from onenumber.errors import BadChoice, BadHabit, BadMix, NoFrame
from onenumber.floors import best_steps, floor
from onenumber.frames import is_ring
from onenumber.numbers import ladder_of
from onenumber.pairs import is_ahead
from onenumber.places import after, front, put_at, term_at
from onenumber.rules import front_numbers, rule_step, rule_walk, rule_worth
from onenumber.terms import is_mix, is_toss
from onenumber.worths import worth
from tests.values import END, HALF, LEAF, ODD, ONE, ZERO, as_fraction, outcome_of, random_fitting_mix

HABITS = ("done", "free")
SURE = ("step", (3, 1), ((ONE, END),))
WORK = ("step", (2, 1), ((HALF, ("step", (4, 1), ())),))
TOSS = ("step", (0, 1), ((HALF, SURE), (HALF, WORK)))
COSTS = ("step", (-1, 1), ((HALF, LEAF),))
UNFRAMED = (("step", (1, 1), ((HALF, END),)), ("step", (-2, 1), (((2, 1), END),)))
ALL = (front_numbers, rule_step, rule_worth)


def at(mix, place):
    return term_at(mix[place[0]], place[1:])


class Numbers(unittest.TestCase):
    def test_numbers_of_the_front(self):
        mix = (("all", (SURE, END, TOSS)), WORK)
        self.assertEqual(front_numbers(mix, "done"), [((0, 0), ((3, 1), ZERO)), ((0, 2), "toss"), ((1,), ((4, 1), ONE))])
        self.assertEqual(front_numbers((END, ("all", (END, END))), "free"), [])

    def test_random_ones(self):
        source = random.Random(131)
        for _ in range(150):
            habit = source.choice(HABITS)
            mix = random_fitting_mix(source, habit)
            told = [(place, "toss" if is_toss(at(mix, place)) else ladder_of(at(mix, place))[0]) for place in front(mix)]
            self.assertEqual(front_numbers(mix, habit), told)


class Steps(unittest.TestCase):
    def test_tosses_first_in_both_habits(self):
        for habit in HABITS:
            self.assertEqual(rule_step((SURE, TOSS, TOSS), habit), (1,))
            self.assertEqual(rule_step((COSTS, ("step", ZERO, ((ONE, COSTS),))), habit), (1,))

    def test_the_first_one_that_none_is_ahead_of(self):
        self.assertEqual(rule_step((WORK, SURE, SURE), "done"), (1,))
        self.assertEqual(rule_step((LEAF, LEAF), "done"), (0,))
        self.assertEqual(rule_step((("all", (COSTS, LEAF)), ("step", (2, 1), ())), "done"), (1,))
        # Level numbers, of unlike sizes.
        self.assertEqual(rule_step((("step", HALF, ((HALF, END),)), LEAF), "done"), (0,))

    def test_nothing_is_done(self):
        self.assertIsNone(rule_step((END, END), "done"))
        self.assertIsNone(rule_step((COSTS,), "free"))
        self.assertEqual(rule_step((COSTS,), "done"), (0,))
        # The number counts, not the step's own pay: here it is 0, then above 0.
        for pay, place in (((2, 1), None), ((3, 1), (0,))):
            self.assertEqual(rule_step((("step", (-1, 1), ((HALF, ("step", pay, ())),)),), "free"), place)
        self.assertIsNone(rule_step((("step", ZERO, ()),), "free"))

    def test_it_is_a_best_step(self):
        source = random.Random(132)
        for _ in range(250):
            habit = source.choice(HABITS)
            mix = random_fitting_mix(source, habit)
            place = rule_step(mix, habit)
            if place is None:
                self.assertTrue(not front(mix) or habit == "free" and floor(mix, habit) == ZERO)
            else:
                self.assertIn(place, best_steps(mix, habit)[0])
                self.assert_foremost(mix, habit, place)

    def assert_foremost(self, mix, habit, place):
        numbers = front_numbers(mix, habit)
        tosses = [there for there, number in numbers if number == "toss"]
        if tosses:
            self.assertEqual(place, tosses[0])
            return
        foremost = [there for there, number in numbers if not any([is_ahead(other, number) for _, other in numbers])]
        self.assertEqual(place, foremost[0])


class Walks(unittest.TestCase):
    def test_whole_walks(self):
        places, left, weight, paid = rule_walk((WORK, SURE), "done", [0, 0])
        self.assertEqual((places, left, weight, paid), ([(1,), (0,), (0,)], (END, END), ZERO, (7, 1)))
        self.assertEqual(rule_walk((END,), "done", []), ([], (END,), ONE, ZERO))
        self.assertEqual(rule_walk((LEAF,), "free", []), ([(0,)], (END,), ZERO, ONE))
        self.assertEqual(rule_walk((COSTS,), "free", []), ([], (COSTS,), ONE, ZERO))

    def test_walks_that_stop_early(self):
        self.assertEqual(rule_walk((WORK, SURE), "done", []), ([], (WORK, SURE), ONE, ZERO))
        self.assertEqual(rule_walk((WORK, SURE), "done", [0]), ([(1,)], (WORK, END), ONE, (3, 1)))

    def test_weights_count(self):
        term = ("step", (8, 1), ((HALF, END), ((1, 4), ("step", (8, 1), (((1, 3), END),)))))
        self.assertEqual(rule_walk((term,), "done", [1, 0]), ([(0,), (0,)], (END,), (1, 12), (10, 1)))

    def test_a_step_without_outcomes_ends_the_walk(self):
        last = ("step", (4, 1), ())
        mix = (("all", (last, COSTS)), SURE)
        self.assertEqual(rule_walk(mix, "done", [0]), ([(1,), (0, 0)], (("all", (END, COSTS)), END), ZERO, (7, 1)))

    def test_choices_that_are_none(self):
        for mix, choices, position in (((WORK, SURE), [1], 0), ((WORK, SURE), [-1], 0), ((WORK, SURE), [0, 1], 1),
                                       ((WORK, SURE), [0, 0, 0], 2), ((LEAF,), [0], 0), ((END,), [0], 0),
                                       ((TOSS,), [0, 0, 0], 2), ((TOSS,), [2], 0), ((COSTS,), [1], 0)):
            with self.assertRaises(BadChoice) as caught:
                rule_walk(mix, "done", choices)
            self.assertEqual(caught.exception.value, position, (mix, choices))
        with self.assertRaises(BadChoice) as caught:
            rule_walk((COSTS,), "free", [0])
        self.assertEqual(caught.exception.value, 0)

    def test_any_values_as_choices(self):
        for value in ODD + ["0", (0,), [0], 1.0]:
            for choices, position in (([value], 0), ([0, value], 1), ([0, 0, value, None], 2)):
                is_number = value == 0 and not isinstance(value, bool) and position < 2
                told = outcome_of(rule_walk, (TOSS,), "done", choices)
                if not is_number and not (position == 0 and value == 1 and isinstance(value, int) and value is not True):
                    self.assertEqual(told, ("raised", "BadChoice", position), (value, position))
        self.assertEqual(outcome_of(rule_walk, (TOSS,), "done", [True]), ("raised", "BadChoice", 0))
        self.assertEqual(outcome_of(rule_walk, (TOSS,), "done", [False]), ("raised", "BadChoice", 0))
        self.assertEqual(outcome_of(rule_walk, (TOSS,), "done", list(range(50000))), ("raised", "BadChoice", 1))

    def test_random_walks(self):
        source = random.Random(133)
        for _ in range(200):
            habit = source.choice(HABITS)
            mix = random_fitting_mix(source, habit)
            here, weight, paid, places, choices = mix, Fraction(1), as_fraction(ZERO), [], []
            while True:
                place = rule_step(here, habit)
                if place is None or (source.randint(0, 5) == 0 and at(here, place)[2]):
                    break
                step = at(here, place)
                places.append(place)
                paid += weight * as_fraction(step[1])
                if not step[2]:
                    here, weight = here[:place[0]] + (put_at(here[place[0]], place[1:], END),) + here[place[0] + 1:], 0
                    break
                choices.append(source.randint(0, len(step[2]) - 1))
                weight *= as_fraction(step[2][choices[-1]][0])
                here = after(here, place)[choices[-1]][1]
            told = rule_walk(mix, habit, choices)
            self.assertIsInstance(told, tuple)
            self.assertEqual((told[0], told[1], as_fraction(told[2]), as_fraction(told[3])), (places, here, weight, paid))


class Worths(unittest.TestCase):
    def test_the_rule_is_paid_the_worth(self):
        source = random.Random(134)
        for _ in range(250):
            habit = source.choice(HABITS)
            mix = random_fitting_mix(source, habit, 16)
            self.assertEqual(rule_worth(mix, habit), worth(mix, habit), (mix, habit))

    def test_a_mix_of_the_greatest_size(self):
        work = ("step", (3, 1), ((HALF, END), ((1, 3), END), ((1, 4), END)))
        wide = ("step", (1, 1), (((1, 5), ("step", (2, 1), ((HALF, ("step", (9, 1), ())),))), ((1, 9), LEAF)))
        mix = (work, work, ("all", (wide, wide)))
        self.assertEqual(rule_worth(mix, "done"), worth(mix, "done"))


class Errors(unittest.TestCase):
    def test_any_values(self):
        for value in ODD:
            for function in ALL:
                if not is_mix(value):
                    with self.assertRaises(BadMix) as caught:
                        function(value, "maybe")
                    self.assertIs(caught.exception.value, value)
                with self.assertRaises(BadHabit) as caught:
                    function((END,), value)
                self.assertIs(caught.exception.value, value)
            if not is_mix(value):
                with self.assertRaises(BadMix) as caught:
                    rule_walk(value, "maybe", [None])
                self.assertIs(caught.exception.value, value)
            self.assertEqual(outcome_of(rule_walk, (END,), value, [None])[1], "BadHabit")

    def test_no_frame(self):
        down = ("step", (0, 1), (((2, 1), END),))
        for mix, habit, pairs in ((UNFRAMED, "done", [(ONE, HALF), ((-2, 1), (-1, 1))]),
                                  ((TOSS, down), "free", [((3, 1), ZERO), ((2, 1), HALF), ((4, 1), ONE),
                                                          (ZERO, (-1, 1)), (ZERO, ONE)])):
            for function, values in [(function, []) for function in ALL] + [(rule_walk, [[None]])]:
                with self.assertRaises(NoFrame) as caught:
                    function(mix, habit, *values)
                self.assertTrue(is_ring(pairs, caught.exception.value), (mix, habit))

    def test_errors_ahead_of_others(self):
        self.assertEqual(outcome_of(rule_walk, UNFRAMED, "maybe", [None]), ("raised", "BadHabit", "maybe"))
        self.assertEqual(outcome_of(rule_walk, UNFRAMED, "done", [None])[1], "NoFrame")
        for function in ALL:
            self.assertEqual(outcome_of(function, UNFRAMED, "maybe"), ("raised", "BadHabit", "maybe"))

    def test_a_mix_that_is_refused_may_be_large(self):
        steps = ("all", (LEAF, LEAF, LEAF))
        large = (("all", (steps, steps, steps)), ("all", (steps, UNFRAMED[0], UNFRAMED[1])))
        for function in ALL:
            self.assertEqual(outcome_of(function, large, "done")[1], "NoFrame")


if __name__ == "__main__":
    unittest.main()
