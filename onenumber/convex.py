"""Functions of one value that are the greatest of finitely many lines, top + slope times value.

They are told by pieces: a list of tuples (start, top, slope) by ascending starts, the first one None, slopes ascending.
"""

from onenumber.amounts import ONE, add, divide, greatest, is_below, multiply, subtract
from onenumber.frames import by_ahead


def value_on(line, value):
    """What a line (top, slope) is at a value."""
    return add(line[0], multiply(line[1], value))


def crossing(line, steeper):
    """The value at which two lines of unlike slopes are the same."""
    return divide(subtract(line[0], steeper[0]), subtract(steeper[1], line[1]))


def straight(top, slope):
    """The function that is one line."""
    return [(None, top, slope)]


def times_weight(pieces, weight):
    """A function times a weight above 0."""
    return [(start, multiply(top, weight), multiply(slope, weight)) for start, top, slope in pieces]


def is_start_below(start, other):
    """Whether a start is less than another one, where None is behind all of them: there is no further piece."""
    return start is not None and (other is None or is_below(start, other))


def start_behind(pieces, position):
    """The start of the piece behind one of a function, or None if there is none."""
    return pieces[position + 1][0] if position + 1 < len(pieces) else None


def sum_of_two(one, other):
    """The sum of two functions."""
    found = []
    at = to = 0
    start = None
    while True:
        (_, top, slope), (_, other_top, other_slope) = one[at], other[to]
        found.append((start, add(top, other_top), add(slope, other_slope)))
        one_start, other_start = start_behind(one, at), start_behind(other, to)
        if one_start is None and other_start is None:
            return found
        start = one_start if is_start_below(one_start, other_start) else other_start
        if one_start == start:
            at += 1
        if other_start == start:
            to += 1


def sum_of(functions):
    """The sum of a list of functions that is not empty."""
    total = functions[0]
    for pieces in functions[1:]:
        total = sum_of_two(total, pieces)
    return total


def greatest_lines(lines):
    """Of some lines, the greatest one of each slope, by ascending slopes."""
    levels = by_ahead([(slope, ONE) for _, slope in lines])
    return [(greatest([lines[number][0] for number in level]), lines[level[0]][1]) for level in levels[::-1]]


def greatest_of(functions):
    """The function that is everywhere the greatest of a list of functions that is not empty."""
    found = []
    for line in greatest_lines([(top, slope) for pieces in functions for _, top, slope in pieces]):
        # A piece that would begin where the one ahead of it begins, or earlier, is nowhere alone the greatest.
        while len(found) > 1 and not is_below(found[-1][0], crossing(found[-1][1:], line)):
            found.pop()
        start = crossing(found[-1][1:], line) if found else None
        found.append((start, line[0], line[1]))
    return found


def turns_of(pieces):
    """The starts of the pieces but the first."""
    return [start for start, _, _ in pieces[1:]]


def value_at(pieces, value):
    """What a function is at a value."""
    line = pieces[0][1:]
    for start, top, slope in pieces[1:]:
        if not is_below(value, start):
            line = (top, slope)
    return value_on(line, value)
