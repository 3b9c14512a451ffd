"""Values that several tests need: odd ones of all kinds, and random pairs, terms and ladders."""

import unittest
from fractions import Fraction

from onenumber.algebra import put_together
from onenumber.errors import MixError
from onenumber.ladders import is_ladder
from onenumber.numbers import ladder_of
from onenumber.states import size
from onenumber.terms import is_mix, is_term
from onenumber.worths import worth

END = ("end",)
ZERO, ONE, HALF = (0, 1), (1, 1), (1, 2)
NOTHING = (ZERO, ZERO)
LEAF = ("step", (1, 1), ())


def nested(kind, depth):
    """A tuple, list or dict nested so deep."""
    value = kind()
    for _ in range(depth - 1):
        value = {"a": value} if kind is dict else kind([value])
    return value


def deep_all(depth):
    """What would be a term if terms had no bounds: an "all" within an "all", so deep."""
    value = END
    for _ in range(depth):
        value = ("all", (value, END))
    return value


def deep_step(depth, outcomes=()):
    """Steps within each other, so deep."""
    value = ("step", (1, 1), outcomes)
    for _ in range(depth - 1):
        value = ("step", (1, 1), ((HALF, value),))
    return value


def doubled(depth):
    """A value that is small in memory and has more than two to the power of depth entries."""
    value = END
    for _ in range(depth):
        value = ("all", (value, value))
    return value


ODD = [
    True, False, None, 0, 1, -1, 10 ** 5000, -(10 ** 5000),
    "", "end", "step", " ", "\n", "1/2", "x" * 50000,
    (), [], {}, {"end": 1}, ("end",), ["end"], [("end",)], (("end",),), ("end", "end"), ("end", ()), ("END",),
    (1, 2), (2, 4), (1, 0), (1, -2), (0, 2), (0, 1), (True, 1), (1, True), (False, 1), [1, 2], (1, 2, 3), (1,),
    ("1", "2"), (None, 1), (10 ** 5000, 3), (1, 10 ** 5000), (10 ** 5000, 10 ** 5000),
    NOTHING, ((1, 1), (1, 2)), [(1, 1), (1, 2)], ((1, 1), [1, 2]), ((1, 1),), ((1, 1), (1, 2), (1, 3)),
    ((2, 2), (1, 2)), ((True, 1), (1, 2)), [((1, 1), (1, 2))], (((1, 1), (1, 2)),), (NOTHING,), [NOTHING],
    ("step",), ("step", (1, 1)), ("step", (1, 1), ()), ["step", (1, 1), ()], ("step", (1, 1), []),
    ("step", (2, 2), ()), ("step", 1, ()), ("step", (1, 1), ((HALF, END), (HALF, END))),
    ("step", (1, 1), ((ZERO, END),)), ("step", (1, 1), (((-1, 2), END),)), ("step", (1, 1), ((HALF,),)),
    ("step", (1, 1), ([HALF, END],)), ("step", (1, 1), ((HALF, END, END),)), ("step", (1, 1), ((HALF, END),) * 4),
    ("step", (1, 1), (), ()), ("step", (0, 1), ((ONE, END),)), ("step", (1, 1), ((HALF, "end"),)),
    ("all",), ("all", ()), ("all", (END,)), ("all", (END, END)), ("all", [END, END]), ("all", (END,) * 4),
    ("all", (END, ["end"])), ("all", (END, END), ()), ("all", END, END),
    ("mix",), (END, END), [END], (END,) * 4, (END,) * 5, (END, None), (LEAF, END),
    nested(tuple, 200), nested(list, 200), nested(dict, 200), deep_all(99), deep_step(60), doubled(98),
    (nested(tuple, 190), (1, 2)), ("step", (1, 1), nested(tuple, 190)), ("all", (END, nested(list, 190))),
    tuple(range(50000)), list(range(50000)), (END,) * 50000, [((1, 1), (1, 2))] * 5000, {number: None for number in range(20000)},
    ("all", (END,) * 50000), ("step", (1, 1), ((HALF, END),) * 9000),
]


def outcome_of(function, *values):
    """What a call returns, or which error of the package it raises and what this keeps."""
    try:
        return ("returned", function(*values))
    except MixError as error:
        return ("raised", error.__class__.__name__, error.value)


def as_fraction(amount):
    return Fraction(amount[0], amount[1])


def as_amount(value):
    return (value.numerator, value.denominator)


def as_numbers(pair):
    return (as_fraction(pair[0]), as_fraction(pair[1]))


def digits(fractions):
    """How many digits the longest top or bottom has."""
    return max([len(str(abs(part))) for amount in fractions for part in amount])


def random_fraction(source, size):
    return as_amount(Fraction(source.randint(-size, size), source.randint(1, size)))


def random_pair(source, size):
    return (random_fraction(source, size), random_fraction(source, size))


def random_weight(source, size):
    return as_amount(Fraction(source.randint(1, size), source.randint(1, size)))


def random_tree(source, room):
    """A random term with about so many parts."""
    kind = source.randint(0, 5)
    if room <= 1 or kind == 0:
        return END
    if kind == 1:
        return ("all", tuple([random_tree(source, room // 3) for _ in range(source.randint(2, 3))]))
    outcomes = [(random_weight(source, 4), random_tree(source, room // 2)) for _ in range(source.randint(0, 3))]
    return ("step", random_fraction(source, 4), tuple(outcomes))


def random_term(source, room=30):
    while True:
        term = random_tree(source, room)
        if is_term(term):
            return term


def random_ladder(source, count, size=4):
    """A random ladder of at most so many rungs, with falls of all signs."""
    while True:
        pairs = [random_pair(source, size) for _ in range(source.randint(0, count))]
        kind, ladder = outcome_of(put_together, pairs)[:2]
        if kind == "returned" and is_ladder(ladder):
            return ladder


def random_framed_term(source, room=20):
    """A random term that has a frame."""
    while True:
        term = random_term(source, room)
        if outcome_of(ladder_of, term)[0] == "returned":
            return term


def random_fitting_mix(source, habit, room=12, most=3):
    """A random mix of a size of at most 400 that fits a habit."""
    while True:
        mix = tuple([random_term(source, room) for _ in range(source.randint(1, most))])
        if is_mix(mix) and size(mix) <= 400 and outcome_of(worth, mix, habit)[0] == "returned":
            return mix


def other_kinds(value):
    """Values that are near a value, but of another kind."""
    if isinstance(value, bool):
        return [int(value), None]
    if isinstance(value, int):
        return [str(value)] + ([bool(value)] if value in (0, 1) else [])
    if isinstance(value, tuple):
        return [list(value), (value,), None]
    if isinstance(value, list):
        return [tuple(value), [value], {number: entry for number, entry in enumerate(value)}]
    return [(value,), 0, None]


def near(value):
    """The list of the values that come of one by a change at one place of it: other kinds, numbers and entries."""
    found = other_kinds(value)
    if isinstance(value, int):
        return found + [value + 1, -value - 1]
    if not isinstance(value, (tuple, list)):
        return found
    kind = tuple if isinstance(value, tuple) else list
    entries = list(value)
    for number, entry in enumerate(entries):
        found.append(kind(entries[:number] + entries[number + 1:]))
        found.append(kind(entries[:number] + [entry] + entries[number:]))
        if number and entries[number - 1] != entry:
            found.append(kind(entries[:number - 1] + [entry, entries[number - 1]] + entries[number + 1:]))
        found.extend([kind(entries[:number] + [other] + entries[number + 1:]) for other in near(entry)])
    return found


def small_ladder(source, count, total=None):
    """A random ladder of few rungs with falls of all signs, by will with a sum of pays that is told."""
    while True:
        pairs = [((source.randint(-4, 4), 1), (source.randint(-2, 2), 1)) for _ in range(source.randint(1, count))]
        if total is not None:
            pairs.append(((total - sum([pay for (pay, _), _ in pairs]), 1), (source.randint(-1, 2), 1)))
        kind, ladder = outcome_of(put_together, pairs)[:2]
        if kind == "returned" and is_ladder(ladder):
            return ladder


def grid_of_companies():
    """Companies of at most two rungs: single rungs, and pairs of one that leaves more and one that leaves nothing."""
    found = [()]
    for pay in range(-8, 9):
        found.append((((pay, 2) if pay & 1 else (pay // 2, 1), ONE),))
        for often in (1, 30):
            first = (as_amount(Fraction(pay * often, 2)), (-often, 1))
            found.append((first,))
            for other in range(-8, 9):
                second = (as_amount(Fraction(other * (often + 1), 2)), (often + 1, 1))
                found.append((first, second))
    return [company for company in found if is_ladder(company)]


BIG = 10 ** 12 - 1


def long_chain(source, count, last):
    """A chain of so many steps with fractions of twelve digits, all falls above 0."""
    term = last
    for _ in range(count):
        weight = Fraction(source.randint(BIG // 2, BIG), BIG + 12)
        term = ("step", as_amount(Fraction(source.randint(1, BIG), source.randint(1, BIG))), ((as_amount(weight), term),))
    return term


class Case(unittest.TestCase):
    """What several test classes ask: which error a call raises, and what this keeps."""

    def told(self, kind, function, *values, **named):
        with self.assertRaises(kind) as caught:
            function(*values, **named)
        # Not one of another class that is a kind of it.
        self.assertIs(caught.exception.__class__, kind)
        return caught.exception.value

    def judges(self, function, right, wrong, ahead=()):
        """That a judge takes all right values and no wrong ones."""
        for value in right:
            self.assertIs(function(*ahead, value), True, value)
        for value in wrong:
            self.assertIs(function(*ahead, value), False, value)

    def refuses(self, kind, function, values, ahead=(), behind=()):
        """That a call raises an error with the very value, for each of some values."""
        for value in values:
            self.assertIs(self.told(kind, function, *ahead, value, *behind), value)
