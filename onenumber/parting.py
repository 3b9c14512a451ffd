"""Parting: a company of at most one rung in which two terms that are not alike are worth unlike.

Beside a company a ladder is worth its own pays, those of the company, and what it gains (or loses) by each rung of the
company. A gain grows as the rung grows. Over the rungs (p, 1), and over the rungs (p, -1), it is a line of p between
one rung of the ladder and the next one. So it is enough to look where such lines are above or below 0, and any rung
of few digits may be taken from there.
"""

from onenumber.amounts import ZERO, add_all, divide, is_below, multiply, negative, simplest_between, subtract
from onenumber.companies import counted_ladder, go_with, require_two_terms, worth_in_company
from onenumber.frames import by_ahead, has_frame, length, outermost_of
from onenumber.ladders import is_ladder, sum_of_pays
from onenumber.numbers import pairs_for_frame
from onenumber.pairs import turn_of_pairs
from onenumber.worths import FREE, with_leaving

SIDES = (1, -1)


def pairs_by_habit(terms, habit):
    """The pairs that must have a frame with a company that goes with some terms."""
    return with_leaving(pairs_for_frame(terms), habit)


def rung_at(cell, place):
    """The pair (place, 1) or (place, -1), as it is in a cell."""
    return (place, (cell[0], 1))


def turns(rays, side):
    """The ascending list of the fractions p such that (p, side), side 1 or -1, points where one of some pairs does."""
    there = [(pay, fall) for pay, fall in rays if fall[0] * side > 0]
    heads = [there[level[0]] for level in by_ahead(there)]
    found = [divide(multiply(pay, (side, 1)), fall) for pay, fall in heads]
    # Of falls above 0 the foremost pair is that of the greatest pay, of falls below 0 that of the least one.
    return found[::-1] if side > 0 else found


def edges_of(pairs):
    """The foremost and the hindmost one of some pairs that have a frame, which stand for all of them."""
    return [((pay, 1), (fall, 1)) for pay, fall in outermost_of(pairs)[1]]


def is_open(rung, edges, habit):
    """Whether a rung may be in a company that goes with pairs of these edges, and counts there."""
    if habit == FREE and rung[0][0] <= 0:
        return False
    return has_frame(edges + [rung])


def cells(ladders, pairs, habit):
    """The list of the cells: stretches of pairs (p, side) that may be rungs, over which the ladders' gains are lines.

    A cell is a tuple (side, low, high, between): p from low to high, None for no bound, and one between them.
    """
    edges = edges_of(pairs)
    rays = [rung for ladder in ladders for rung in ladder]
    # What points against an edge is where rungs cease to have a frame with it; by "free" they cease to count at 0.
    rays.extend([(negative(pay), negative(fall)) for pay, fall in edges])
    if habit == FREE:
        rays.extend([(ZERO, (side, 1)) for side in SIDES])
    found = []
    for side in SIDES:
        bounds = [None] + turns(rays, side) + [None]
        for low, high in zip(bounds, bounds[1:]):
            cell = (side, low, high, simplest_between(low, high))
            if is_open(rung_at(cell, cell[3]), edges, habit):
                found.append(cell)
    return found


def gain_line(ladder, cell):
    """The gain of a ladder by the pairs (p, side) of a cell, as a line (top, slope): top plus slope times p."""
    here = rung_at(cell, cell[3])
    behind = [pay for pay, fall in ladder if turn_of_pairs((pay, fall), here) <= 0]
    ahead = [fall for pay, fall in ladder if turn_of_pairs((pay, fall), here) > 0]
    return (multiply(add_all(behind), (-cell[0], 1)), negative(add_all(ahead)))


def line_apart(one, other, cell):
    """The gain of one ladder less that of another one, as a line."""
    (top, slope), (other_top, other_slope) = gain_line(one, cell), gain_line(other, cell)
    return (subtract(top, other_top), subtract(slope, other_slope))


def where_below(interval, line):
    """The part of an interval (low, high) in which a line is below 0, or None."""
    low, high = interval
    top, slope = line
    if slope == ZERO:
        return interval if top[0] < 0 else None
    root = divide(negative(top), slope)
    if slope[0] > 0 and (high is None or is_below(root, high)):
        high = root
    if slope[0] < 0 and (low is None or is_below(low, root)):
        low = root
    return (low, high) if low is None or high is None or is_below(low, high) else None


def length_of_company(company):
    return max([length(rung) for rung in company])


def rungs_apart(one, other, pairs, habit):
    """The list of rungs by which two ladders gain unlike; some, if there is any such rung."""
    found = []
    for cell in cells([one, other], pairs, habit):
        for line in (line_apart(one, other, cell), line_apart(other, one, cell)):
            interval = where_below((cell[1], cell[2]), line)
            if interval is not None:
                found.append(rung_at(cell, simplest_between(interval[0], interval[1])))
    return found


def company_apart(one, other, pairs, habit):
    """Any company of at most one rung, with which the pairs go, in which two ladders are worth unlike, or None."""
    if sum_of_pays(one) != sum_of_pays(other):
        return ()
    if one == other:
        return None
    return min([(rung,) for rung in rungs_apart(one, other, pairs, habit)], key=length_of_company)


def parting(one, other, habit):
    """Any company of at most one rung in which two terms are worth unlike, or None if they are alike."""
    require_two_terms(one, other, habit)
    pairs = pairs_by_habit((one, other), habit)
    return company_apart(counted_ladder(one, habit), counted_ladder(other, habit), pairs, habit)


def worths_of_two(one, other, company, habit):
    """The list of the worths of two terms in a company."""
    return [worth_in_company(counted_ladder(term, habit), company, habit) for term in (one, other)]


def is_company_of_two(one, other, habit, value):
    """Whether any value is a company with which two terms go."""
    return is_ladder(value) and go_with((one, other), value, habit)


def is_parting(one, other, habit, value):
    """Whether any value is a company with which two terms go and in which they are worth unlike."""
    require_two_terms(one, other, habit)
    if not is_company_of_two(one, other, habit, value):
        return False
    one_worth, other_worth = worths_of_two(one, other, value, habit)
    return one_worth != other_worth
