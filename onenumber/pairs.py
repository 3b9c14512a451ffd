"""Pairs: tuples (pay, fall) of two fractions, and which of two is ahead."""

from math import gcd

from onenumber.amounts import add_all, is_fraction, multiply, require_fraction
from onenumber.errors import BadPair

NOTHING = ((0, 1), (0, 1))


def is_pair(value):
    """Whether any value is a pair."""
    return isinstance(value, tuple) and len(value) == 2 and is_fraction(value[0]) and is_fraction(value[1])


def require_pair(value):
    if not is_pair(value):
        raise BadPair(value)


def require_pairs(values):
    """Raises BadPair with the first entry of a list or tuple that is no pair."""
    for value in values:
        require_pair(value)


def arrow(pair):
    """Two integers without a common divisor that point where the pair points."""
    (pay, pay_bottom), (fall, fall_bottom) = pair
    across, along = pay * fall_bottom, fall * pay_bottom
    common = gcd(across, along)
    if common == 0:
        return (0, 0)
    return (across // common, along // common)


def turn(one, other):
    """Above 0 if the pair of the first arrow is ahead of that of the second one, below 0 if behind it."""
    return one[0] * other[1] - one[1] * other[0]


def reach(one, other):
    """The sum of the products of two arrows' integers: above 0 if they point to one side."""
    return one[0] * other[0] + one[1] * other[1]


def turn_of_pairs(one, other):
    return turn(arrow(one), arrow(other))


def add_pairs(pairs):
    """The pair that a list or tuple of pairs adds up to."""
    return (add_all([pay for pay, _ in pairs]), add_all([fall for _, fall in pairs]))


def multiply_pair(pair, share):
    return (multiply(pair[0], share), multiply(pair[1], share))


def is_ahead(one, other):
    """Whether the first pair is ahead of the second one."""
    require_pair(one)
    require_pair(other)
    return turn_of_pairs(one, other) > 0


def are_level(one, other):
    """Whether neither of two pairs is ahead of the other one."""
    require_pair(one)
    require_pair(other)
    return turn_of_pairs(one, other) == 0


def total(pairs):
    """The pair that a list or tuple of pairs adds up to."""
    require_pairs(pairs)
    return add_pairs(pairs)


def spread(pair, share):
    """The pair with both of its fractions times a fraction."""
    require_pair(pair)
    require_fraction(share)
    return multiply_pair(pair, share)
