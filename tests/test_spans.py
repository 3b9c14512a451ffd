import random
from fractions import Fraction

from onenumber.errors import BadFirst, BadHabit, BadMix, BadPlace, BadValue, TooMany
from onenumber.floors import best_steps, floor
from onenumber.places import after, front, put_at, step_places, term_at
from onenumber.spans import firsts, guard, pieces, regret, turns, worth_at
from onenumber.states import explored, size, states
from onenumber.terms import is_mix
from onenumber.worths import worth
from tests.values import (
    BIG,
    END,
    HALF,
    LEAF,
    ODD,
    ONE,
    ZERO,
    Case,
    as_amount,
    as_fraction,
    outcome_of,
    random_fraction,
    random_term,
)

HABITS = ("done", "free")
ALONE = (("step", ZERO, ()),)
OPEN = ("step", ZERO, ((HALF, END),))
FOUR = ("step", (4, 1), ((HALF, END),))
PAIR = (OPEN, FOUR)
SURE = ("step", (3, 1), ((ONE, END),))
# The terms of this mix have no frame together.
UNFRAMED = (("step", ONE, ((HALF, END),)), ("step", (-2, 1), (((2, 1), END),)))
FUNCTIONS = ((pieces, ()), (turns, ()), (worth_at, (ONE,)), (firsts, ()), (guard, (ZERO, ONE)), (regret, ((0,), ZERO, ONE)))


def spots_of(mix):
    return [(number,) + place for number, term in enumerate(mix) for place in step_places(term)]


def with_pay(mix, spot, value):
    """The mix with a pay put in at a spot."""
    _, _, outcomes = term_at(mix[spot[0]], spot[1:])
    terms = list(mix)
    terms[spot[0]] = put_at(terms[spot[0]], spot[1:], ("step", as_amount(Fraction(value)), outcomes))
    return tuple(terms)


def random_span(source, most=100):
    while True:
        mix = tuple([random_term(source, source.choice([6, 12])) for _ in range(source.randint(1, 3))])
        if is_mix(mix) and spots_of(mix) and size(mix) <= most:
            return mix, source.choice(spots_of(mix)), source.choice(HABITS)


def worth_by_floor(mix, spot, habit, value):
    return as_fraction(floor(with_pay(mix, spot, value), habit))


def brought_by(mix, spot, habit, first, value):
    """What can be had if a deed is done first, with a pay put in."""
    if first is None:
        return Fraction(0)
    paid = with_pay(mix, spot, value)
    step = term_at(paid[first[0]], first[1:])
    return as_fraction(step[1]) + sum([as_fraction(weight) * as_fraction(floor(behind, habit))
                                       for weight, behind in after(paid, first)])


def first_by(mix, spot, habit, value):
    """What is first by a value, None ahead of the places."""
    best = best_steps(with_pay(mix, spot, value), habit)[0]
    return [None] * (None in best) + [place for place in best if place is not None]


def deeds_of(mix, habit):
    return front(mix) + ([None] if habit == "free" else [])


def chain(count, number=1):
    term = END
    for _ in range(count):
        term = ("step", (number, 1), ((HALF, term),))
    return term


class Pieces(Case):
    def judge(self, told):
        self.assertIsInstance(told, list)
        self.assertIsNone(told[0][0])
        starts = [as_fraction(start) for start, _, _ in told[1:]]
        slopes = [as_fraction(slope) for _, _, slope in told]
        self.assertEqual(starts, sorted(set(starts)))
        self.assertEqual(slopes, sorted(set(slopes)))
        self.assertGreaterEqual(slopes[0], 0)

    def test_they_tell_the_worth(self):
        source = random.Random(271)
        several = 0
        for _ in range(120):
            mix, spot, habit = random_span(source)
            told = pieces(mix, spot, habit)
            self.judge(told)
            bounds = [as_fraction(start) for start, _, _ in told[1:]]
            self.assertEqual([as_fraction(turn) for turn in turns(mix, spot, habit)], bounds)
            values = [source.randint(-30, 30), Fraction(source.randint(-9, 9), 7)]
            values += [bound + shift for bound in bounds for shift in (0, Fraction(1, 1000), Fraction(-1, 1000))]
            for value in values:
                piece = [piece for piece in told if piece[0] is None or as_fraction(piece[0]) <= value][-1]
                line = as_fraction(piece[1]) + as_fraction(piece[2]) * value
                right = worth_by_floor(mix, spot, habit, value)
                self.assertEqual(line, right, (mix, spot, habit, value))
                self.assertEqual(as_fraction(worth_at(mix, spot, habit, as_amount(Fraction(value)))), right)
            several += len(told) > 2
        self.assertGreater(several, 15)

    def test_the_pay_that_stands_there_does_not_count(self):
        source = random.Random(272)
        for _ in range(30):
            mix, spot, habit = random_span(source)
            other = with_pay(mix, spot, Fraction(*random_fraction(source, 9)))
            self.assertEqual(pieces(mix, spot, habit), pieces(other, spot, habit))
            self.assertEqual(firsts(mix, spot, habit), firsts(other, spot, habit))

    def test_just_one_step_is_open(self):
        # Three equal steps: the others keep their pay.
        self.assertEqual(pieces((LEAF, LEAF, LEAF), (1,), "done"), [(None, ONE, ZERO), (ONE, ZERO, ONE)])
        self.assertEqual(pieces((SURE, SURE), (0,), "done"), [(None, (3, 1), ONE)])
        self.assertEqual(pieces((SURE, SURE), (1,), "free"), [(None, (3, 1), ZERO), (ZERO, (3, 1), ONE)])
        # Two equal outcomes, in one of which it is open.
        twice = ("step", ZERO, ((HALF, SURE), (HALF, SURE)))
        self.assertEqual(pieces((twice,), (0, 1), "done"), [(None, (3, 2), HALF)])
        self.assertEqual(pieces((twice,), (0, 1), "free"), [(None, (3, 2), ZERO), (ZERO, (3, 2), HALF)])
        self.assertEqual(firsts((twice,), (0, 0), "free"), [(None, None, [(0,)])])

    def test_slopes_are_weights_in_the_mean(self):
        self.assertEqual(pieces((("step", ONE, (((3, 1), LEAF),)),), (0, 0), "done"), [(None, ONE, (3, 1))])
        # Of a step without outcomes ahead of it nothing is left.
        self.assertEqual(pieces((LEAF, OPEN), (1,), "done"), [(None, ONE, ZERO), (HALF, HALF, ONE)])

    def test_without_a_frame(self):
        for habit in HABITS:
            self.assertEqual(outcome_of(worth, UNFRAMED, habit)[1], "NoFrame")
            for value in (-5, 0, 1, 3, 100):
                for spot in ((0,), (1,)):
                    self.assertEqual(as_fraction(worth_at(UNFRAMED, spot, habit, (value, 1))),
                                     worth_by_floor(UNFRAMED, spot, habit, value))
        # First one of them, and then the other: (1 + x / 2), or (x + 2).
        self.assertEqual(pieces(UNFRAMED, (1,), "done"), [(None, ONE, HALF), ((-2, 1), (2, 1), ONE)])

    def test_long_fractions(self):
        source = random.Random(273)

        def step(inner):
            weight = as_amount(Fraction(source.randint(1, BIG), BIG + 12))
            return ("step", as_amount(Fraction(source.randint(-BIG, BIG), source.randint(1, BIG))), ((weight, inner),))

        for habit in HABITS:
            mix = (step(step(END)), step(step(END)), ("all", (step(END), step(END))))
            told = pieces(mix, (0, 0), habit)
            for value in [Fraction(1, 3)] + [as_fraction(turn) for turn in turns(mix, (0, 0), habit)]:
                self.assertEqual(as_fraction(worth_at(mix, (0, 0), habit, as_amount(value))),
                                 worth_by_floor(mix, (0, 0), habit, value))
            self.assertEqual(told, pieces(mix, (0, 0), habit))

    def test_each_call_gives_new_lists(self):
        for function, values in FUNCTIONS[:2] + FUNCTIONS[3:4]:
            first, second = function(PAIR, (0,), "free", *values), function(PAIR, (0,), "free", *values)
            self.assertEqual(first, second)
            self.assertIsNot(first, second)
        first = firsts(PAIR, (0,), "free")
        for entry in first:
            for told in entry[1:]:
                if told is not None:
                    told.append("x")
        self.assertNotIn("x", str(firsts(PAIR, (0,), "free")))


class Firsts(Case):
    def test_they_are_the_best_steps(self):
        source = random.Random(274)
        entries = 0
        for _ in range(120):
            mix, spot, habit = random_span(source)
            told = firsts(mix, spot, habit)
            self.assertEqual(told[0][:2], (None, None))
            starts = [as_fraction(start) for start, _, _ in told[1:]]
            self.assertEqual(starts, sorted(set(starts)))
            # What changes changes at turns of the worth, or of what a deed brings; here at all values that are tried.
            bounds = [as_fraction(turn) for turn in turns(mix, spot, habit)]
            values = bounds + [bound + shift for bound in bounds for shift in (Fraction(1, 999), Fraction(-1, 999))]
            values += [Fraction(source.randint(-40, 40), source.randint(1, 6)) for _ in range(6)] + [-10 ** 9, 10 ** 9]
            for value in values:
                entry = [entry for entry in told if entry[0] is None or as_fraction(entry[0]) <= value][-1]
                just = entry[0] is not None and as_fraction(entry[0]) == value
                self.assertEqual(entry[1] if just else entry[2], first_by(mix, spot, habit, value), (mix, spot, habit, value))
            for ahead, (_, at, behind) in zip(told, told[1:]):
                self.assertTrue(at != ahead[2] or behind != ahead[2])
            entries += len(told) - 1
        self.assertGreater(entries, 60)

    def test_no_entry_where_the_worth_turns_and_the_firsts_stay(self):
        # Behind the first step it hangs on the value what comes next, but this step is first all the same.
        mix = (("step", (100, 1), ((ONE, ("all", (OPEN, FOUR))),)),)
        self.assertEqual(len(turns(mix, (0, 0, 0), "done")), 1)
        self.assertEqual(firsts(mix, (0, 0, 0), "done"), [(None, None, [(0,)])])

    def test_small_ones(self):
        self.assertEqual(firsts(PAIR, (0,), "done"), [(None, None, [(1,)]), ((4, 1), [(0,), (1,)], [(0,)])])
        # Where the worth is 0 leaving is first, and a step that is as good, too.
        costs = (("step", (-1, 1), ((ONE, LEAF),)),)
        self.assertEqual(firsts(costs, (0, 0), "free"), [(None, None, [None]), (ONE, [None, (0,)], [(0,)])])
        nothing = (("step", ZERO, ((ONE, LEAF),)),)
        self.assertEqual(firsts(nothing, (0, 0), "free"), [(None, None, [None, (0,)]), (ZERO, [None, (0,)], [(0,)])])
        self.assertEqual(firsts(nothing, (0, 0), "done"), [(None, None, [(0,)])])
        # A change just at one value: behind it all is as it was.
        self.assertEqual(firsts((LEAF, ("step", ZERO, ())), (1,), "done"), [(None, None, [(0,)]), (ONE, [(0,), (1,)], [(1,)])])

    def test_just_at_a_value(self):
        # By the value 0 both are first, and leaving; ahead of it leaving alone, behind it the first alone.
        mix = (("step", ONE, ()), ("step", ZERO, ((ONE, END),)))
        told = firsts(mix, (1,), "free")
        for value, right in ((-1, [(0,)]), (0, [(0,), (1,)]), (1, [(1,)])):
            self.assertEqual(first_by(mix, (1,), "free", value), right)
        self.assertEqual(told, [(None, None, [(0,)]), (ZERO, [(0,), (1,)], [(1,)])])


class Regrets(Case):
    def test_they_are_the_greatest(self):
        source = random.Random(275)
        inside = 0
        for _ in range(80):
            mix, spot, habit = random_span(source, 40)
            low, high = sorted([Fraction(*random_fraction(source, 9)) for _ in range(2)])
            span = (as_amount(low), as_amount(high))
            told = {}
            for first in deeds_of(mix, habit):
                most, value = regret(mix, spot, habit, first, *span)
                value = as_fraction(value)
                self.assertTrue(low <= value <= high)
                told[first] = as_fraction(most)
                self.assertEqual(told[first], worth_by_floor(mix, spot, habit, value)
                                 - brought_by(mix, spot, habit, first, value))
                inside += low < value < high
                values = [low + (high - low) * Fraction(part, 12) for part in range(13)]
                values += [as_fraction(turn) for turn in turns(mix, spot, habit) if low <= as_fraction(turn) <= high]
                for other in values:
                    loss = worth_by_floor(mix, spot, habit, other) - brought_by(mix, spot, habit, first, other)
                    self.assertLessEqual(0, loss)
                    self.assertLessEqual(loss, told[first], (mix, spot, habit, first, span))
            best = guard(mix, spot, habit, *span)
            self.assertIn(best, told)
            self.assertEqual(told[best], min(told.values()))
        self.assertGreater(inside, 0)

    def test_small_ones(self):
        self.assertEqual(regret(PAIR, (0,), "done", (0,), ZERO, (8, 1)), ((2, 1), ZERO))
        self.assertEqual(regret(PAIR, (0,), "done", (1,), ZERO, (8, 1)), ((2, 1), (8, 1)))
        self.assertEqual(regret(PAIR, (0,), "done", (1,), ZERO, (4, 1))[0], ZERO)
        self.assertEqual([guard(PAIR, (0,), "done", *span) for span in ((ZERO, (7, 1)), (ONE, (8, 1)))], [(1,), (0,)])
        # Leaving brings 0.
        self.assertEqual(regret(PAIR, (0,), "free", None, ZERO, (8, 1)), ((10, 1), (8, 1)))
        self.assertEqual(regret(PAIR, (0,), "done", (0,), (3, 1), (3, 1)), (HALF, (3, 1)))

    def test_what_a_deed_brings_is_not_raised_to_0(self):
        self.assertEqual(regret(ALONE, (0,), "free", (0,), (-5, 1), (3, 1)), ((5, 1), (-5, 1)))
        self.assertEqual(regret(ALONE, (0,), "free", None, (-5, 1), (3, 1)), ((3, 1), (3, 1)))
        self.assertEqual(guard(ALONE, (0,), "free", (-5, 1), (3, 1)), None)
        self.assertEqual(guard(ALONE, (0,), "free", (-3, 1), (5, 1)), (0,))

    def test_the_greatest_inside(self):
        # Doing one of the two outer steps first is bad where the value is not at the ends.
        inside = 0
        source = random.Random(276)
        for _ in range(60):
            mix, spot, habit = random_span(source, 60)
            for first in deeds_of(mix, habit):
                most, value = regret(mix, spot, habit, first, (-9, 1), (9, 1))
                ends = [regret(mix, spot, habit, first, end, end)[0] for end in ((-9, 1), (9, 1))]
                if as_fraction(most) > max(map(as_fraction, ends)):
                    inside += 1
                    self.assertNotIn(value, ((-9, 1), (9, 1)))
        self.assertGreater(inside, 0)


class Errors(Case):
    def test_errors_in_their_sequence(self):
        for function, values in FUNCTIONS:
            for value in ODD:
                if not is_mix(value):
                    self.refuses(BadMix, function, [value], behind=((), "maybe") + (None,) * len(values))
                if value != (1,):
                    self.refuses(BadPlace, function, [value], ahead=(PAIR,), behind=("maybe",) + (None,) * len(values))
                self.refuses(BadHabit, function, [value], ahead=(PAIR, (0,)), behind=(None,) * len(values))

    def test_spots(self):
        mix = (("all", (OPEN, ("step", ONE, ((HALF, LEAF), (HALF, END))))), END)
        self.assertEqual(spots_of(mix), [(0, 0), (0, 1), (0, 1, 0)])
        for spot in spots_of(mix):
            self.assertEqual(pieces(mix, spot, "done")[0][0], None)
        wrong = [(), (0,), (1,), (2,), (-1,), (0, 2), (0, 0, 0), (0, 1, 1), (0, 1, 2), (0, 1, 0, 0), [0, 0], (0, False), (False, 0),
                 (0, True), ("0",), (0, None), 0, None]
        self.refuses(BadPlace, pieces, wrong, ahead=(mix,), behind=("maybe",))

    def test_firsts(self):
        wrong = [value for value in ODD if value is not None and value != (1,)] + [(2,), (-1,), (), [0], (False,), (True,), (0, 0), 0]
        for habit in HABITS:
            self.refuses(BadFirst, regret, wrong, ahead=(PAIR, (0,), habit), behind=(None, None))
        self.refuses(BadFirst, regret, [None], ahead=(PAIR, (0,), "done"), behind=(ONE, ZERO))
        # The step with the open pay need not be at the front, the first one must.
        deep = (("step", ONE, ((HALF, LEAF),)),)
        self.refuses(BadFirst, regret, [(0, 0)], ahead=(deep, (0, 0), "free"), behind=(ZERO, ONE))

    def test_values(self):
        wrong = [value for value in ODD if not (isinstance(value, tuple) and len(value) == 2 and isinstance(value[0], int))]
        wrong += [(2, 4), (1, 0), (1, -2), (True, 1), (1, True), [1, 2], 1]
        self.refuses(BadValue, worth_at, wrong, ahead=(PAIR, (0,), "done"))
        self.refuses(BadValue, guard, wrong, ahead=(PAIR, (0,), "done"), behind=(None,))
        self.refuses(BadValue, guard, wrong + [(-1, 9)], ahead=(PAIR, (0,), "done", ZERO))
        self.refuses(BadValue, regret, wrong, ahead=(PAIR, (0,), "done", (0,)), behind=("x",))
        self.refuses(BadValue, regret, wrong + [(1, 3)], ahead=(PAIR, (0,), "done", (0,), HALF))
        self.assertEqual(guard(PAIR, (0,), "done", ONE, ONE), (1,))


class States(Case):
    def test_the_limit_is_that_of_states(self):
        # 5 times 5 times 4 times 4 states, and one more with a step ahead of all.
        mix = (chain(4), chain(4, 2), chain(3, 3), chain(3, 4))
        self.assertEqual(len(states(mix)), 400)
        more = (("step", ONE, ((HALF, ("all", (mix[0], mix[1], ("all", mix[2:])))),)),)
        self.assertEqual(len(explored(more)[0]), 401)
        self.assertEqual(size(more), 401)
        self.assertIsNone(pieces(mix, (0,), "done")[0][0])
        for function, values in FUNCTIONS:
            self.assertEqual(self.told(TooMany, function, more, (0,), "free", *values), 400)

    def test_a_mix_of_few_states_may_be_of_a_greater_size(self):
        wide = ("step", (2, 1), ((HALF, END), ((1, 4), END), ((1, 8), END)))
        mix = (("all", (wide, wide)), ("all", (wide, wide)), ("all", (wide, OPEN)))
        self.assertGreater(size(mix), 1000)
        self.assertEqual(len(explored(mix)[0]), 64)
        for habit in HABITS:
            told = pieces(mix, (2, 1), habit)
            self.assertEqual(told[-1][2], ONE)
            self.assertEqual(firsts(mix, (2, 1), habit)[-1][2], [(2, 1)])

    def test_states_that_the_open_step_tells_apart_do_not_count(self):
        # Behind the first step there are two equal outcomes, in one of which the step is open.
        half = ("all", (chain(4), chain(4, 2), ("all", (chain(2, 3), ("step", (7, 1), ((HALF, END),))))))
        self.assertEqual(len(states((half,))), 150)
        mix = (("step", ZERO, ((HALF, half), (HALF, half))),)
        self.assertIs(is_mix(mix), False)
        small = ("all", (chain(2), chain(2, 2), ("all", (chain(1, 3), ("step", (7, 1), ((HALF, END),))))))
        mix = (("step", ZERO, ((HALF, small), (HALF, small))), ("step", (9, 1), ((HALF, END),)),
               ("step", (8, 1), ((HALF, END),)), ("step", (6, 1), ((HALF, END),)))
        self.assertEqual(is_mix(mix), True)
        self.assertEqual(len(explored(mix)[0]), 8 * 37)
        spot = (0, 1, 2, 1)
        self.assertGreater(len(explored(mix, spot)[0]), 400)
        for habit in HABITS:
            self.assertEqual(worth_at(mix, spot, habit, (7, 1)), worth(mix, habit))
            self.assertEqual(pieces(mix, spot, habit)[-1][2], HALF)

    def test_the_limit_is_behind_all_other_errors(self):
        mix = (chain(5), chain(5, 2), chain(5, 3))
        mix = mix + (chain(1),)
        self.assertGreater(size(mix), 400)
        self.assertEqual(outcome_of(pieces, mix, (9,), "done")[1], "BadPlace")
        self.assertEqual(outcome_of(pieces, mix, (0,), "maybe")[1], "BadHabit")
        self.assertEqual(outcome_of(worth_at, mix, (0,), "done", 1)[1], "BadValue")
        self.assertEqual(outcome_of(regret, mix, (0,), "done", None, ZERO, ONE)[1], "BadFirst")
        self.assertEqual(outcome_of(regret, mix, (0,), "done", (0,), ONE, ZERO), ("raised", "BadValue", ZERO))
        self.assertEqual(outcome_of(guard, mix, (0,), "done", ONE, ZERO), ("raised", "BadValue", ZERO))
        for function, values in FUNCTIONS:
            self.assertEqual(outcome_of(function, mix, (0,), "done", *values), ("raised", "TooMany", 400))

    def test_large_mixes_are_refused_soon(self):
        wide = ("step", ONE, ((HALF, END),) * 3)
        mix = (("all", (wide, wide, wide)), ("all", (wide, wide, wide)), ("all", (wide, wide, wide)), ("all", (wide, wide, wide)))
        self.assertEqual(outcome_of(pieces, mix, (0, 0), "done"), ("raised", "TooMany", 400))
