import random
import unittest
from fractions import Fraction

from onenumber.errors import BadCourse, BadHabit, BadMix, TooMany
from onenumber.floors import best_course, best_steps, course_worths, floor, floors, is_cover, is_floors
from onenumber.places import after, front, term_at
from onenumber.states import size, states
from onenumber.terms import is_mix
from tests.values import END, HALF, LEAF, ODD, ONE, ZERO, as_amount, as_fraction, near, outcome_of, random_term

HABITS = ("done", "free")
SURE = ("step", (3, 1), ((ONE, END),))
COSTS = ("step", (-1, 1), ((HALF, LEAF),))
NOTHING_PAID = ("step", ZERO, ((HALF, END),))
# The terms of this mix have no frame together.
UNFRAMED = (("step", (1, 1), ((HALF, END),)), ("step", (-2, 1), (((2, 1), END),)))
WIDE = ("step", (1, 1), ((HALF, END),) * 3)
LARGE = (("all", (WIDE, WIDE)), ("all", (WIDE, WIDE, WIDE)))
ALL = (floors, floor, best_steps, best_course)


def value_at(mix, place, worths, told):
    """What a front step brings, with worths by states."""
    value = as_fraction(term_at(mix[place[0]], place[1:])[1])
    for weight, behind in after(mix, place):
        value += as_fraction(weight) * worths[told.index(behind)]
    return value


def reference(mix, habit):
    """The floors, and the best steps of all states, by trying all of them again until nothing changes."""
    told = states(mix)
    worths = [Fraction(0) for _ in told]
    while True:
        new = []
        for state in told:
            values = [value_at(state, place, worths, told) for place in front(state)]
            new.append(max(values + ([Fraction(0)] if habit == "free" or not values else [])))
        if new == worths:
            break
        worths = new
    best = []
    for state, worth in zip(told, worths):
        places = [place for place in front(state) if value_at(state, place, worths, told) == worth]
        best.append(places + ([None] if habit == "free" and worth == 0 else []))
    return [as_amount(worth) for worth in worths], best


def random_mixes(seed, count):
    source = random.Random(seed)
    while count:
        mix = tuple([random_term(source, source.choice([6, 12])) for _ in range(source.randint(1, 3))])
        if is_mix(mix) and size(mix) <= 100:
            count -= 1
            yield mix, source.choice(HABITS)


class Floors(unittest.TestCase):
    def test_random_mixes_with_a_frame_and_without(self):
        for mix, habit in random_mixes(151, 200):
            told, best = reference(mix, habit)
            self.assertEqual(floors(mix, habit), told, (mix, habit))
            self.assertEqual(floor(mix, habit), told[0])
            self.assertEqual(best_steps(mix, habit), best, (mix, habit))
            self.assertIs(is_floors(mix, habit, told), True)
            self.assertIs(is_cover(mix, habit, told), True)

    def test_without_a_frame(self):
        self.assertEqual(floors(UNFRAMED, "done"), [(0, 1), (-2, 1), (1, 1), (0, 1)])
        self.assertEqual(floors(UNFRAMED, "free"), [(1, 1), (0, 1), (1, 1), (0, 1)])

    def test_where_leaving_is_best(self):
        self.assertEqual(best_steps((COSTS,), "free"), [[None], [(0,)]])
        self.assertEqual(best_steps((COSTS,), "done"), [[(0,)], [(0,)]])
        # A step that is as good stands ahead of leaving.
        self.assertEqual(best_steps((NOTHING_PAID, NOTHING_PAID), "free")[0], [(0,), (1,), None])
        self.assertEqual(best_steps((NOTHING_PAID, NOTHING_PAID), "done")[0], [(0,), (1,)])
        self.assertEqual([best_steps((END,), habit) for habit in HABITS], [[[]], [[None]]])

    def test_several_best_steps(self):
        self.assertEqual(best_steps((SURE, SURE), "done"), [[(0,), (1,)], [(1,)], [(0,)], []])
        self.assertEqual(best_steps((LEAF, SURE), "done"), [[(1,)], [(0,)]])


class Covers(unittest.TestCase):
    def test_small_ones(self):
        mix = (LEAF, SURE)
        self.assertEqual(floors(mix, "done"), [(4, 1), (1, 1)])
        for value, right in (([(4, 1), (1, 1)], True), ([(5, 1), (1, 1)], True), ([(5, 1), (2, 1)], True),
                             ([(4, 1), (2, 1)], False), ([(7, 2), (1, 1)], False), ([(4, 1), HALF], False)):
            self.assertIs(is_cover(mix, "done", value), right, value)
            self.assertIs(is_floors(mix, "done", value), value == [(4, 1), (1, 1)])

    def test_not_below_0(self):
        down = ("step", (-3, 1), ((ONE, END),))
        self.assertIs(is_cover((down,), "done", [(-3, 1), ZERO]), True)
        self.assertIs(is_cover((down,), "done", [(-3, 1), (-1, 9)]), False)
        self.assertIs(is_cover((down,), "free", [(-3, 1), ZERO]), False)
        self.assertIs(is_cover((down,), "free", [ZERO, ZERO]), True)
        self.assertIs(is_cover((down,), "free", [(-1, 9), ZERO]), False)
        self.assertIs(is_cover((END,), "done", [(5, 1)]), True)
        self.assertIs(is_floors((END,), "done", [(5, 1)]), False)

    def test_random_ones(self):
        source = random.Random(152)
        for mix, habit in random_mixes(153, 150):
            told = states(mix)
            right = floors(mix, habit)
            value = [as_amount(as_fraction(amount) + source.choice([0, 0, 0, 0, Fraction(1, 3), 1, -1])) for amount in right]
            worths = [as_fraction(amount) for amount in value]
            covers = True
            for state, worth in zip(told, worths):
                values = [value_at(state, place, worths, told) for place in front(state)]
                covers = covers and all([worth >= other for other in values])
                covers = covers and (worth >= 0 or bool(values) and habit == "done")
            self.assertIs(is_cover(mix, habit, value), covers, (mix, habit, value))
            self.assertIs(is_floors(mix, habit, value), value == right)
            if covers:
                self.assertTrue(all([worth >= as_fraction(low) for worth, low in zip(worths, right)]))

    def test_any_values(self):
        mix = (COSTS, LEAF)
        right = floors(mix, "free")
        for value in ODD + near(right):
            self.assertIs(is_floors(mix, "free", value), False)
            told = is_cover(mix, "free", value)
            self.assertIsInstance(told, bool)
            if not isinstance(value, list) or len(value) != len(right):
                self.assertIs(told, False)

    def test_kinds(self):
        for value in (((1, 1),), [(True, 1)], [(1, True)], [[1, 1]], [(2, 2)], [1], [(1, 1), (0, 1)], [], None, {0: (1, 1)},
                      [None]):
            self.assertIs(is_cover((LEAF,), "done", value), False, value)
            self.assertIs(is_floors((LEAF,), "done", value), False, value)
        self.assertIs(is_floors((END,), "done", [(False, 1)]), False)


class Courses(unittest.TestCase):
    def test_small_ones(self):
        mix = (LEAF, SURE)
        self.assertEqual(course_worths(mix, "done", [(0,), (0,)]), [(1, 1), (1, 1)])
        self.assertEqual(course_worths(mix, "done", [(1,), (0,)]), [(4, 1), (1, 1)])
        self.assertEqual(course_worths(mix, "free", [(1,), None]), [(3, 1), ZERO])
        self.assertEqual(course_worths(mix, "free", [None, (0,)]), [ZERO, (1, 1)])
        self.assertEqual(course_worths((END,), "done", [None]), [ZERO])

    def test_best_courses(self):
        self.assertEqual(best_course((SURE, SURE), "done"), [(0,), (1,), (0,), None])
        self.assertEqual(best_course((COSTS,), "free"), [None, (0,)])
        self.assertEqual(best_course((COSTS,), "done"), [(0,), (0,)])
        # Where the floor is 0 it leaves, though a step is as good.
        self.assertEqual(best_course((NOTHING_PAID,), "free"), [None, None])
        self.assertEqual(best_course((NOTHING_PAID,), "done"), [(0,), None])

    def test_random_ones(self):
        source = random.Random(154)
        for mix, habit in random_mixes(155, 150):
            told, right, best = states(mix), floors(mix, habit), best_steps(mix, habit)
            course = best_course(mix, habit)
            self.assertEqual(course_worths(mix, habit, course), right)
            for entry, there, low in zip(course, best, right):
                leaves = habit == "free" and low == ZERO
                self.assertEqual(entry, None if leaves or not there else there[0])
            other = [source.choice(front(state) + ([None] if habit == "free" else [])) if front(state) else None
                     for state in told]
            worths = course_worths(mix, habit, other)
            amounts = [as_fraction(amount) for amount in worths]
            for state, entry, amount in zip(told, other, amounts):
                self.assertEqual(amount, 0 if entry is None else value_at(state, entry, amounts, told))
            self.assertTrue(all([amount <= as_fraction(low) for amount, low in zip(amounts, right)]))
            takes_best = all([entry in there if there or entry else True for entry, there in zip(other, best)])
            self.assertEqual(worths == right, takes_best)

    def test_courses_that_are_none(self):
        mix = (LEAF, SURE)
        for habit, course in (("done", [(0,), None]), ("done", [None, (0,)]), ("done", [(0,)]), ("done", []),
                              ("done", [(0,), (0,), None]), ("done", ((0,), (0,))), ("done", [(0,), (1,)]),
                              ("done", [(2,), (0,)]), ("done", [0, (0,)]), ("done", [[0], (0,)]), ("done", [(False,), (0,)]),
                              ("done", [(True,), (0,)]), ("free", [(0,), (1,)]), ("free", [(), (0,)]),
                              ("free", [False, False]), ("free", [None]), ("free", None), ("done", [(0, 0), (0,)])):
            with self.assertRaises(BadCourse) as caught:
                course_worths(mix, habit, course)
            self.assertIs(caught.exception.value, course)
        for course in ([(0,)], [()], [False]):
            self.assertEqual(outcome_of(course_worths, (END,), "free", course), ("raised", "BadCourse", course))

    def test_any_values(self):
        for value in ODD + near([(1,), (0,)]):
            if value != [(1,), (0,)] and value != [(0,), (0,)]:
                with self.assertRaises(BadCourse) as caught:
                    course_worths((LEAF, SURE), "done", value)
                self.assertIs(caught.exception.value, value)


class Errors(unittest.TestCase):
    def test_any_values(self):
        for value in ODD:
            for function in ALL:
                if not is_mix(value):
                    with self.assertRaises(BadMix) as caught:
                        function(value, "maybe")
                    self.assertIs(caught.exception.value, value)
                with self.assertRaises(BadHabit) as caught:
                    function((END,), value)
                self.assertIs(caught.exception.value, value)

    def test_the_limit_is_behind_the_habit(self):
        for function, values in [(function, []) for function in ALL] + [
                (is_cover, [[]]), (is_floors, [None]), (course_worths, [None])]:
            with self.assertRaises(TooMany) as caught:
                function(LARGE, "done", *values)
            self.assertEqual(caught.exception.value, 400)
            self.assertEqual(outcome_of(function, LARGE, "maybe", *values), ("raised", "BadHabit", "maybe"))
            self.assertEqual(outcome_of(function, LARGE + (None,), "maybe", *values)[1], "BadMix")

    def test_a_mix_of_the_size_400(self):
        five = ("step", (1, 1), ((HALF, SURE), ((1, 3), ("all", (END, SURE)))))
        forty = ("all", (five, ("all", (SURE, SURE, SURE))))
        mix = (forty, five, SURE)
        self.assertEqual(size(mix), 400)
        self.assertEqual(course_worths(mix, "done", best_course(mix, "done")), floors(mix, "done"))


if __name__ == "__main__":
    unittest.main()
