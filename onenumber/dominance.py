"""Which of two terms is never worse in any company, and companies in which one is worse.

By how much a ladder is worth more than another one is a line along each rung of a company, and what a company leaves
is told by the sum of its falls. So if there is a company in which the ladder is worth less, one of these is such: the
empty one; a rung that leaves nothing; a rung with a fall not above 0, often enough; or two rungs that leave together
what there was, often enough, one with a fall below 0 and behind it one with a fall above 0.
"""

from onenumber.amounts import ONE, ZERO, add, divide, greatest, is_below, least, negative, simplest_between, subtract
from onenumber.companies import alike, counted_ladder, require_two_terms
from onenumber.convex import value_on
from onenumber.frames import has_frame
from onenumber.ladders import sum_of_pays
from onenumber.pairs import multiply_pair
from onenumber.parting import (
    cells,
    is_company_of_two,
    length_of_company,
    line_apart,
    pairs_by_habit,
    rung_at,
    where_below,
    worths_of_two,
)

# It has a frame with what leaves more and, behind it, what leaves less than there was, in this sequence alone.
STEADY = ((1, 1), (0, 1))


def times_above(amount):
    """The least integer above 0 that is greater than a fraction, as a fraction."""
    return (max(1, amount[0] // amount[1] + 1), 1)


def one_rung_below(cell, line, gap):
    """Any company of one rung of a cell in which a ladder is worth less, or None.

    The gap is by how much it is worth more without a company, the line by how much it gains more.
    """
    side, low, high, _ = cell
    interval = where_below((low, high), (add(line[0], gap), line[1]) if side > 0 else line)
    if interval is None:
        return None
    place = simplest_between(interval[0], interval[1])
    # Where nothing is to be left, the loss is above the gap, and once is enough.
    often = times_above(divide(gap, negative(value_on(line, place))))
    return (multiply_pair(rung_at(cell, place), often),)


def bounds_of_second(first_line, second, line):
    """The lists of lines, over the place of a first rung, that the place of a second one must be above, and below."""
    # The first rung is ahead of the second one if their places add up to more than 0.
    above, below = [(ZERO, (-1, 1))], []
    if second[1] is not None:
        above.append((second[1], ZERO))
    if second[2] is not None:
        below.append((second[2], ZERO))
    if line[1] != ZERO:
        root = (divide(add(first_line[0], line[0]), negative(line[1])), divide(first_line[1], negative(line[1])))
        if line[1][0] > 0:
            below.append(root)
        else:
            above.append(root)
    return (above, below)


def places_below(first, first_line, second, line):
    """Any places of rungs in two cells, the first one's side below 0, with gains together below 0, or None."""
    interval = (first[1], first[2])
    if line[1] == ZERO:
        interval = where_below(interval, (add(first_line[0], line[0]), first_line[1]))
    above, below = bounds_of_second(first_line, second, line)
    for low in above:
        for high in below:
            if interval is not None:
                interval = where_below(interval, (subtract(low[0], high[0]), subtract(low[1], high[1])))
    if interval is None:
        return None
    place = simplest_between(interval[0], interval[1])
    lowest = greatest([value_on(bound, place) for bound in above])
    highest = least([value_on(bound, place) for bound in below]) if below else None
    return (place, simplest_between(lowest, highest))


def two_rungs_below(first, first_line, second, line, gap):
    """Any company of a rung of each of two cells in which a ladder is worth less, or None.

    There is none of one rung then.
    """
    found = places_below(first, first_line, second, line)
    if found is None:
        return None
    gain, second_gain = value_on(first_line, found[0]), value_on(line, found[1])
    often = times_above(divide(add(gap, second_gain), negative(add(gain, second_gain))))
    # What the first rung leaves more, and all there was, is gone behind the second one.
    return (multiply_pair(rung_at(first, found[0]), often), multiply_pair(rung_at(second, found[1]), add(often, ONE)))


def shortest(companies):
    """The company of the fewest digits in a list of companies and None, or None."""
    found = [company for company in companies if company is not None]
    return min(found, key=length_of_company) if found else None


def with_lines(one, other, pairs, habit):
    """The list of the tuples (cell, line), the line being by how much the first of two ladders gains more there."""
    return [(cell, line_apart(one, other, cell)) for cell in cells([one, other], pairs, habit)]


def company_below(one, other, pairs, habit):
    """Any company of at most two rungs, with which the pairs go, in which one ladder is worth less, or None."""
    gap = subtract(sum_of_pays(one), sum_of_pays(other))
    if gap[0] < 0:
        return ()
    if one == other:
        return None
    found = shortest([one_rung_below(cell, line, gap) for cell, line in with_lines(one, other, pairs, habit)])
    if found is not None or not has_frame(pairs + [STEADY]):
        return found
    lined = with_lines(one, other, pairs + [STEADY], habit)
    firsts = [entry for entry in lined if entry[0][0] < 0]
    seconds = [entry for entry in lined if entry[0][0] > 0]
    return shortest([two_rungs_below(first, first_line, second, line, gap)
                     for first, first_line in firsts for second, line in seconds])


def company_of_two_below(one, other, habit):
    pairs = pairs_by_habit((one, other), habit)
    return company_below(counted_ladder(one, habit), counted_ladder(other, habit), pairs, habit)


def never_worse(one, other, habit):
    """Whether one term is worth less than another one in no company."""
    require_two_terms(one, other, habit)
    return company_of_two_below(one, other, habit) is None


def worse_in(one, other, habit):
    """Any company of at most two rungs in which one term is worth less than another one, or None."""
    require_two_terms(one, other, habit)
    return company_of_two_below(one, other, habit)


def is_worse_in(one, other, habit, value):
    """Whether any value is a company with which two terms go and in which one is worth less than the other one."""
    require_two_terms(one, other, habit)
    if not is_company_of_two(one, other, habit, value):
        return False
    one_worth, other_worth = worths_of_two(one, other, value, habit)
    return is_below(one_worth, other_worth)


def between(one, other, habit):
    """How one term stands to another one: "alike", "more", "less" or "neither"."""
    if alike(one, other, habit):
        return "alike"
    if company_of_two_below(one, other, habit) is None:
        return "more"
    return "less" if company_of_two_below(other, one, habit) is None else "neither"
