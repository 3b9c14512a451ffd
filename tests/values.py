"""Values that several tests need: odd ones of all kinds, and random pairs, terms and ladders."""

from fractions import Fraction

from onenumber.algebra import put_together
from onenumber.errors import MixError
from onenumber.ladders import is_ladder
from onenumber.terms import is_term

END = ("end",)
ZERO, ONE, HALF = (0, 1), (1, 1), (1, 2)
NOTHING = (ZERO, ZERO)
LEAF = ("step", (1, 1), ())


def nested(kind, depth):
    """A tuple, list or dict nested so deep."""
    value = kind()
    for _ in range(depth - 1):
        value = {"a": value} if kind is dict else kind([value])
    return value


def deep_all(depth):
    """What would be a term if terms had no bounds: an "all" within an "all", so deep."""
    value = END
    for _ in range(depth):
        value = ("all", (value, END))
    return value


def deep_step(depth, outcomes=()):
    """Steps within each other, so deep."""
    value = ("step", (1, 1), outcomes)
    for _ in range(depth - 1):
        value = ("step", (1, 1), ((HALF, value),))
    return value


def doubled(depth):
    """A value that is small in memory and has more than two to the power of depth entries."""
    value = END
    for _ in range(depth):
        value = ("all", (value, value))
    return value


ODD = [
    True, False, None, 0, 1, -1, 10 ** 5000, -(10 ** 5000),
    "", "end", "step", " ", "\n", "1/2", "x" * 50000,
    (), [], {}, {"end": 1}, ("end",), ["end"], [("end",)], (("end",),), ("end", "end"), ("end", ()), ("END",),
    (1, 2), (2, 4), (1, 0), (1, -2), (0, 2), (0, 1), (True, 1), (1, True), (False, 1), [1, 2], (1, 2, 3), (1,),
    ("1", "2"), (None, 1), (10 ** 5000, 3), (1, 10 ** 5000), (10 ** 5000, 10 ** 5000),
    NOTHING, ((1, 1), (1, 2)), [(1, 1), (1, 2)], ((1, 1), [1, 2]), ((1, 1),), ((1, 1), (1, 2), (1, 3)),
    ((2, 2), (1, 2)), ((True, 1), (1, 2)), [((1, 1), (1, 2))], (((1, 1), (1, 2)),), (NOTHING,), [NOTHING],
    ("step",), ("step", (1, 1)), ("step", (1, 1), ()), ["step", (1, 1), ()], ("step", (1, 1), []),
    ("step", (2, 2), ()), ("step", 1, ()), ("step", (1, 1), ((HALF, END), (HALF, END))),
    ("step", (1, 1), ((ZERO, END),)), ("step", (1, 1), (((-1, 2), END),)), ("step", (1, 1), ((HALF,),)),
    ("step", (1, 1), ([HALF, END],)), ("step", (1, 1), ((HALF, END, END),)), ("step", (1, 1), ((HALF, END),) * 4),
    ("step", (1, 1), (), ()), ("step", (0, 1), ((ONE, END),)), ("step", (1, 1), ((HALF, "end"),)),
    ("all",), ("all", ()), ("all", (END,)), ("all", (END, END)), ("all", [END, END]), ("all", (END,) * 4),
    ("all", (END, ["end"])), ("all", (END, END), ()), ("all", END, END),
    ("mix",), (END, END), [END], (END,) * 4, (END,) * 5, (END, None), (LEAF, END),
    nested(tuple, 200), nested(list, 200), nested(dict, 200), deep_all(99), deep_step(60), doubled(98),
    (nested(tuple, 190), (1, 2)), ("step", (1, 1), nested(tuple, 190)), ("all", (END, nested(list, 190))),
    tuple(range(50000)), list(range(50000)), (END,) * 50000, [((1, 1), (1, 2))] * 5000, {number: None for number in range(20000)},
    ("all", (END,) * 50000), ("step", (1, 1), ((HALF, END),) * 9000),
]


def outcome_of(function, *values):
    """What a call returns, or which error of the package it raises and what this keeps."""
    try:
        return ("returned", function(*values))
    except MixError as error:
        return ("raised", error.__class__.__name__, error.value)


def as_fraction(amount):
    return Fraction(amount[0], amount[1])


def as_amount(value):
    return (value.numerator, value.denominator)


def as_numbers(pair):
    return (as_fraction(pair[0]), as_fraction(pair[1]))


def digits(fractions):
    """How many digits the longest top or bottom has."""
    return max([len(str(abs(part))) for amount in fractions for part in amount])


def random_fraction(source, size):
    return as_amount(Fraction(source.randint(-size, size), source.randint(1, size)))


def random_pair(source, size):
    return (random_fraction(source, size), random_fraction(source, size))


def random_weight(source, size):
    return as_amount(Fraction(source.randint(1, size), source.randint(1, size)))


def random_tree(source, room):
    """A random term with about so many parts."""
    kind = source.randint(0, 5)
    if room <= 1 or kind == 0:
        return END
    if kind == 1:
        return ("all", tuple([random_tree(source, room // 3) for _ in range(source.randint(2, 3))]))
    outcomes = [(random_weight(source, 4), random_tree(source, room // 2)) for _ in range(source.randint(0, 3))]
    return ("step", random_fraction(source, 4), tuple(outcomes))


def random_term(source, room=30):
    while True:
        term = random_tree(source, room)
        if is_term(term):
            return term


def random_ladder(source, count, size=4):
    """A random ladder of at most so many rungs, with falls of all signs."""
    while True:
        pairs = [random_pair(source, size) for _ in range(source.randint(0, count))]
        kind, ladder = outcome_of(put_together, pairs)[:2]
        if kind == "returned" and is_ladder(ladder):
            return ladder
