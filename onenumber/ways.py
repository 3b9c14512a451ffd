"""Ways: terms of which one is picked; which of them are best in a company, and in every one."""

from onenumber.algebra import gathered
from onenumber.amounts import ONE, ZERO, divide, greatest, is_below, is_number_below, least, simplest_between, subtract
from onenumber.companies import counted_ladder, go_with, require_fit_together, worth_in_company
from onenumber.dominance import company_below
from onenumber.errors import BadNumber, BadWays, NoCompany
from onenumber.frames import length
from onenumber.ladders import require_ladder, sum_of_pays, weights_left
from onenumber.pairs import multiply_pair
from onenumber.parting import pairs_by_habit, rungs_apart
from onenumber.terms import is_term
from onenumber.worths import require_habit

MOST_WAYS = 4


def require_ways(value):
    """Raises BadWays for any value that is no tuple of 1 to 4 terms."""
    if not isinstance(value, tuple) or not 1 <= len(value) <= MOST_WAYS:
        raise BadWays(value)
    if not all(is_term(entry) for entry in value):
        raise BadWays(value)


def require_ways_that_fit(ways, habit):
    """Raises BadWays, BadHabit, then NoFit, for any values as ways by a habit."""
    require_ways(ways)
    require_habit(habit)
    require_fit_together(ways, habit)


def counted_ladders(ways, habit):
    return [counted_ladder(way, habit) for way in ways]


def worths_of(ladders, company, habit):
    return [worth_in_company(ladder, company, habit) for ladder in ladders]


def best_of(ladders, company, habit):
    """The ascending list of the numbers of the ladders that are worth most in a company."""
    worths = worths_of(ladders, company, habit)
    best = greatest(worths)
    return [number for number, amount in enumerate(worths) if amount == best]


def company_beating(ladders, number, pairs, habit):
    """Any company of at most two rungs, with which the pairs go, in which a ladder is not best, or None."""
    for other in ladders:
        company = company_below(ladders[number], other, pairs, habit)
        if company is not None:
            return company
    return None


def with_some_of(ladders, company, rung, habit):
    """A company with so little of a rung beside it that of the ladders that are best there some still are."""
    worths = worths_of(ladders, company, habit)
    best = greatest(worths)
    gains = [subtract(amount, sum_of_pays(ladder))
             for ladder, amount in zip(ladders, worths_of(ladders, (rung,), habit))]
    leading = greatest([gain for gain, amount in zip(gains, worths) if amount == best])
    bounds = [divide(subtract(best, amount), subtract(gain, leading))
              for gain, amount in zip(gains, worths) if amount != best and is_below(leading, gain)]
    if rung[1][0] > 0:
        # Something must be left behind each rung, so that there is room for further ones.
        bounds.extend([divide(weight, rung[1]) for weight in [ONE] + weights_left(company)])
    share = simplest_between(ZERO, least(bounds) if bounds else None)
    return gathered([*company, multiply_pair(rung, share)])


def company_of_one_lot(ladders, pairs, habit):
    """Any company of at most three rungs, with which the pairs go, in which all ladders that are best are the same."""
    company = ()
    while True:
        best = [ladders[number] for number in best_of(ladders, company, habit)]
        others = [ladder for ladder in best if ladder != best[0]]
        if not others:
            return company
        # By each rung the best ones become fewer, and there are at most four at first.
        rungs = rungs_apart(best[0], others[0], pairs + list(company), habit)
        company = with_some_of(ladders, company, min(rungs, key=length), habit)


def best_in(ways, company, habit):
    """The ascending list of the numbers of the ways that are best in a company."""
    require_ways(ways)
    require_ladder(company)
    require_ways_that_fit(ways, habit)
    if not go_with(ways, company, habit):
        raise NoCompany(company)
    return best_of(counted_ladders(ways, habit), company, habit)


def best_everywhere(ways, habit):
    """The ascending list of the numbers of the ways that are best in every company."""
    require_ways_that_fit(ways, habit)
    ladders, pairs = counted_ladders(ways, habit), pairs_by_habit(ways, habit)
    # A way that is best in every company is best in this one, and so are those alike to it.
    best = best_of(ladders, company_of_one_lot(ladders, pairs, habit), habit)
    return best if company_beating(ladders, best[0], pairs, habit) is None else []


def ladder_of_ways(ways, habit):
    """The ladder as which the ways stand in every company, or None."""
    best = best_everywhere(ways, habit)
    return counted_ladder(ways[best[0]], habit) if best else None


def two_companies(ways, habit):
    """Any two companies such that no way is best in both, or None if some way is best in every company."""
    require_ways_that_fit(ways, habit)
    ladders, pairs = counted_ladders(ways, habit), pairs_by_habit(ways, habit)
    company = company_of_one_lot(ladders, pairs, habit)
    other = company_beating(ladders, best_of(ladders, company, habit)[0], pairs, habit)
    return None if other is None else (company, other)


def require_number(value, ways):
    """Raises BadNumber for any value that is no number of a way."""
    if not is_number_below(value, len(ways)):
        raise BadNumber(value)


def beaten_in(ways, number, habit):
    """Any company of at most two rungs in which the way of a number is not best, or None."""
    require_ways_that_fit(ways, habit)
    require_number(number, ways)
    return company_beating(counted_ladders(ways, habit), number, pairs_by_habit(ways, habit), habit)
