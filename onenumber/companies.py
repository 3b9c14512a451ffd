"""Companies: ladders beside terms, and terms that are alike in all of them.

The functions below the checks take any number of rungs and pairs; those of the interface look first.
"""

from onenumber.algebra import joined
from onenumber.errors import BadTerms, NoCompany, NoFit
from onenumber.frames import has_frame
from onenumber.ladders import require_ladder
from onenumber.numbers import ladder_of_term, pairs_for_frame
from onenumber.terms import is_term, require_term
from onenumber.worths import counted_rungs, require_habit, rungs_that_pay, with_leaving, worth_of_ladder

MOST_TERMS_TOGETHER = 6


def go_with(terms, company, habit):
    """Whether terms go with a company by a habit."""
    return has_frame(with_leaving(pairs_for_frame(terms) + list(company), habit))


def worth_in_company(ladder, company, habit):
    """The worth of a term that has this ladder, in a company with which it goes."""
    return worth_of_ladder(joined([ladder, company]), habit)


def counted_ladder(term, habit):
    return counted_rungs(ladder_of_term(term), habit)


def require_terms(value):
    """Raises BadTerms for any value that is no tuple of 1 to 6 terms."""
    if not isinstance(value, tuple) or not 1 <= len(value) <= MOST_TERMS_TOGETHER:
        raise BadTerms(value)
    if not all(is_term(entry) for entry in value):
        raise BadTerms(value)


def require_fit_together(terms, habit):
    """Raises NoFit for a tuple of terms that do not fit together by a habit."""
    if not go_with(terms, (), habit):
        raise NoFit(terms)


def require_two_terms(one, other, habit):
    """Raises BadTerm, BadHabit, then NoFit, for any values as two terms that fit together by a habit."""
    require_term(one)
    require_term(other)
    require_habit(habit)
    require_fit_together((one, other), habit)


def goes_with(terms, company, habit):
    """Whether a tuple of 1 to 6 terms goes with a company by a habit."""
    require_terms(terms)
    require_ladder(company)
    require_habit(habit)
    return go_with(terms, company, habit)


def worth_in(term, company, habit):
    """The worth of a term in a company."""
    require_term(term)
    require_ladder(company)
    require_habit(habit)
    require_fit_together((term,), habit)
    if not go_with((term,), company, habit):
        raise NoCompany(company)
    return worth_in_company(ladder_of_term(term), company, habit)


def paying(ladder):
    """The tuple of the rungs of a ladder with pays above 0."""
    require_ladder(ladder)
    return rungs_that_pay(ladder)


def counted(term, habit):
    """The ladder of a term; by "free" its paying rungs."""
    require_term(term)
    require_habit(habit)
    require_fit_together((term,), habit)
    return counted_ladder(term, habit)


def alike(one, other, habit):
    """Whether two terms are worth the same in every company."""
    require_two_terms(one, other, habit)
    return counted_ladder(one, habit) == counted_ladder(other, habit)


def lots(terms, habit):
    """The list of the lists of the positions of alike terms, of a tuple of 1 to 6, by their first ones."""
    require_terms(terms)
    require_habit(habit)
    require_fit_together(terms, habit)
    found = {}
    for position, term in enumerate(terms):
        found.setdefault(counted_ladder(term, habit), []).append(position)
    return list(found.values())
