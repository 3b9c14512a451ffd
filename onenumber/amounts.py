"""Fractions: tuples (top, bottom) of two integers in lowest terms, bottom above 0.

The functions below the checks trust that they are handed fractions; those of the interface look first.
"""

from math import gcd

from onenumber.errors import BadFraction

ZERO = (0, 1)
ONE = (1, 1)


def is_whole(value):
    """Whether any value is an integer, which a bool is not."""
    return isinstance(value, int) and not isinstance(value, bool)


def is_number_below(value, count):
    """Whether any value is an integer from 0 on that is less than count."""
    return is_whole(value) and 0 <= value < count


def is_fraction(value):
    """Whether any value is a fraction."""
    if not isinstance(value, tuple) or len(value) != 2:
        return False
    top, bottom = value
    if not is_whole(top) or not is_whole(bottom) or bottom <= 0:
        return False
    return gcd(top, bottom) == 1


def is_above_zero(value):
    """Whether any value is a fraction above 0."""
    return is_fraction(value) and value[0] > 0


def is_from_zero(value):
    """Whether any value is a fraction that is not below 0."""
    return is_fraction(value) and value[0] >= 0


def is_proper(value):
    """Whether any value is a fraction above 0 and below 1."""
    return is_fraction(value) and 0 < value[0] < value[1]


def require_fraction(value):
    if not is_fraction(value):
        raise BadFraction(value)


def require_whole(value):
    if not is_whole(value):
        raise BadFraction(value)


def lowest(top, bottom):
    """The fraction top / bottom; bottom is not 0."""
    common = gcd(top, bottom)
    if bottom < 0:
        common = -common
    return (top // common, bottom // common)


def add(one, other):
    return lowest(one[0] * other[1] + other[0] * one[1], one[1] * other[1])


def subtract(one, other):
    return lowest(one[0] * other[1] - other[0] * one[1], one[1] * other[1])


def multiply(one, other):
    return lowest(one[0] * other[0], one[1] * other[1])


def divide(one, other):
    return lowest(one[0] * other[1], one[1] * other[0])


def add_all(fractions):
    """The sum of a list of fractions."""
    # One division at the end: dividing at each entry is slow where there are many unlike bottoms.
    bottom = 1
    for _, below in fractions:
        bottom = bottom // gcd(bottom, below) * below
    return lowest(sum(top * (bottom // below) for top, below in fractions), bottom)


def multiply_all(fractions):
    """The product of a list of fractions."""
    result = ONE
    for amount in fractions:
        result = multiply(result, amount)
    return result


def is_below(one, other):
    """Whether one fraction is less than another one."""
    return one[0] * other[1] < other[0] * one[1]


def greatest(fractions):
    """The greatest of a list of fractions that is not empty."""
    best = fractions[0]
    for amount in fractions:
        if is_below(best, amount):
            best = amount
    return best


def negative(amount):
    return (-amount[0], amount[1])


def least(fractions):
    """The least of a list of fractions that is not empty."""
    return negative(greatest([negative(amount) for amount in fractions]))


def continued(wholes, last):
    """The fraction last, to which each of some integers, the last one first, is added behind turning it over."""
    top, bottom = last, 1
    for whole in wholes[::-1]:
        top, bottom = whole * top + bottom, top
    return (top, bottom)


def simplest_above(low, high):
    """The fraction of the least bottom, and of these the least one, between low, from 0 on, and high, or no bound."""
    wholes = []
    while True:
        whole = low[0] // low[1]
        if high is None or is_below((whole + 1, 1), high):
            return continued(wholes, whole + 1)
        wholes.append(whole)
        rest = (low[0] - whole * low[1], low[1])
        low = (high[1], high[0] - whole * high[1])
        # Behind the whole nothing may be left of the lower bound; turned over it is no bound.
        high = None if rest[0] == 0 else (rest[1], rest[0])


def simplest_between(low, high):
    """A fraction of few digits above one fraction and below another, greater one; None is no bound."""
    if (low is None or low[0] < 0) and (high is None or high[0] > 0):
        return ZERO
    if low is None or low[0] < 0:
        return negative(simplest_above(negative(high), None if low is None else negative(low)))
    return simplest_above(low, high)


def fraction(top, bottom):
    """The fraction with the value of top divided by bottom."""
    require_whole(top)
    require_whole(bottom)
    if bottom == 0:
        raise BadFraction(bottom)
    return lowest(top, bottom)


def plus(one, other):
    """The sum of two fractions."""
    require_fraction(one)
    require_fraction(other)
    return add(one, other)


def minus(one, other):
    """The first fraction less the second one."""
    require_fraction(one)
    require_fraction(other)
    return subtract(one, other)


def times(one, other):
    """The product of two fractions."""
    require_fraction(one)
    require_fraction(other)
    return multiply(one, other)


def over(one, other):
    """The first fraction divided by the second one."""
    require_fraction(one)
    require_fraction(other)
    if other == ZERO:
        raise BadFraction(other)
    return divide(one, other)


def compare(one, other):
    """-1, 0 or 1 as the first fraction is less than, equal to or greater than the second one."""
    require_fraction(one)
    require_fraction(other)
    excess = subtract(one, other)[0]
    if excess == 0:
        return 0
    return 1 if excess > 0 else -1
