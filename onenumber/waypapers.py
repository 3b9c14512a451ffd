"""Papers of ways: the way that is best in every company, or two companies such that no way is best in both."""

from onenumber.amounts import is_number_below
from onenumber.companies import go_with
from onenumber.errors import NoCompany
from onenumber.ladders import is_ladder, require_ladders
from onenumber.ways import best_everywhere, best_of, counted_ladders, require_ways, require_ways_that_fit, two_companies

ONE_WAY = "one"
TWO_COMPANIES = "two"


def has_form_of_paper(value, kind, length):
    """Whether any value is a tuple of this length that begins with the word for its kind."""
    return isinstance(value, tuple) and len(value) == length and value[0] == kind


def no_way_is_best_in_both(ways, habit, companies):
    """Whether two values are companies that go with some ways, no way being best in both."""
    ladders = counted_ladders(ways, habit)
    best = []
    for company in companies:
        if not is_ladder(company) or not go_with(ways, company, habit):
            return False
        best.append(best_of(ladders, company, habit))
    return not any(number in best[1] for number in best[0])


def way_paper(ways, habit):
    """Any paper of some ways."""
    companies = two_companies(ways, habit)
    if companies is None:
        return (ONE_WAY, best_everywhere(ways, habit)[0])
    return (TWO_COMPANIES,) + companies


def is_way_paper(ways, habit, value):
    """Whether any value is a paper of some ways."""
    require_ways_that_fit(ways, habit)
    if has_form_of_paper(value, ONE_WAY, 2):
        return is_number_below(value[1], len(ways)) and value[1] in best_everywhere(ways, habit)
    if has_form_of_paper(value, TWO_COMPANIES, 3):
        return no_way_is_best_in_both(ways, habit, value[1:])
    return False


def best_lists(ways, companies, habit):
    """The list of the lists of the numbers of the ways that are best in each company of a list."""
    require_ways(ways)
    require_ladders(companies)
    require_ways_that_fit(ways, habit)
    for company in companies:
        if not go_with(ways, company, habit):
            raise NoCompany(company)
    ladders = counted_ladders(ways, habit)
    return [best_of(ladders, company, habit) for company in companies]
