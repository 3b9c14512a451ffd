"""Projects that pay day by day, yards in which one of them is worked on each day, and wages of stretches of days.

The functions below the checks trust that they are handed projects and yards; those of the interface look first.
"""

from onenumber.amounts import ONE, ZERO, add, divide, greatest, is_fraction, is_number_below, is_proper, multiply
from onenumber.errors import BadPlan, BadProject, BadShare, BadWorked, BadYard
from onenumber.terms import END

MOST_DAYS = 8
MOST_PROJECTS = 3
MOST_DAYS_IN_ALL = 12


def is_project(value):
    """Whether any value is a project."""
    return isinstance(value, tuple) and 1 <= len(value) <= MOST_DAYS and all(is_fraction(entry) for entry in value)


def is_yard(value):
    """Whether any value is a yard."""
    if not isinstance(value, tuple) or len(value) != 2 or not is_proper(value[0]):
        return False
    projects = value[1]
    if not isinstance(projects, tuple) or not 1 <= len(projects) <= MOST_PROJECTS:
        return False
    if not all(is_project(entry) for entry in projects):
        return False
    return sum([len(project) for project in projects]) <= MOST_DAYS_IN_ALL


def require_share_and_project(share, project):
    """Raises BadShare, then BadProject, for any values that are none."""
    if not is_proper(share):
        raise BadShare(share)
    if not is_project(project):
        raise BadProject(project)


def require_yard(value):
    if not is_yard(value):
        raise BadYard(value)


def term_of_project(share, project):
    term = END
    for pay in project[::-1]:
        term = ("step", pay, ((share, term),))
    return term


def paid_in_all(share, pays):
    """The sum of some pays, each times share to the power of its position."""
    total = ZERO
    for pay in pays[::-1]:
        total = add(pay, multiply(share, total))
    return total


def wage(share, days):
    """The wage of a stretch of days."""
    return divide(paid_in_all(share, days), paid_in_all(share, [ONE for _ in days]))


def pays_of_plan(yard, plan):
    """The list of what the projects of a plan pay, entry by entry."""
    worked = [0 for _ in yard[1]]
    found = []
    for number in plan:
        found.append(yard[1][number][worked[number]])
        worked[number] += 1
    return found


def with_one_more(worked, number):
    return worked[:number] + (worked[number] + 1,) + worked[number + 1:]


def nothing_worked(yard):
    return (0,) * len(yard[1])


def values_of_going_on(yard, worked, known):
    """The list of the tuples (number of a project with a day left, the most that a plan pays that begins with it)."""
    share, projects = yard
    found = []
    for number, project in enumerate(projects):
        if worked[number] < len(project):
            rest = worth_left(yard, with_one_more(worked, number), known)
            found.append((number, add(project[worked[number]], multiply(share, rest))))
    return found


def worth_left(yard, worked, known):
    """The greatest worth of a plan for the days left; known keeps what has been worked out."""
    if worked not in known:
        values = values_of_going_on(yard, worked, known)
        # A plan may be empty.
        known[worked] = greatest([ZERO] + [value for _, value in values])
    return known[worked]


def best_next(yard, worked, known):
    """The ascending list of the numbers of all projects with which a plan of the greatest worth begins."""
    best = worth_left(yard, worked, known)
    return [number for number, value in values_of_going_on(yard, worked, known) if value == best]


def is_worked(yard, value):
    """Whether any value is a tuple of numbers of days that the projects of a yard may have been worked on."""
    if not isinstance(value, tuple) or len(value) != len(yard[1]):
        return False
    return all(is_number_below(days, len(project) + 1) for days, project in zip(value, yard[1]))


def project_term(share, project):
    """The term of a project by a share."""
    require_share_and_project(share, project)
    return term_of_project(share, project)


def falling(share, project):
    """The falling list of a project by a share."""
    require_share_and_project(share, project)
    found = []
    while len(found) < len(project):
        rest = project[len(found):]
        wages = [wage(share, rest[:length]) for length in range(1, len(rest) + 1)]
        best = greatest(wages)
        longest = max([length for length, amount in enumerate(wages, start=1) if amount == best])
        found.extend([best] * longest)
    return found


def yard_terms(yard):
    """The tuple of the terms of a yard's projects."""
    require_yard(yard)
    return tuple([term_of_project(yard[0], project) for project in yard[1]])


def yard_worth(yard):
    """The greatest worth of a plan of a yard."""
    require_yard(yard)
    return worth_left(yard, nothing_worked(yard), {})


def best_plan(yard):
    """Any plan of a yard of the greatest worth."""
    require_yard(yard)
    known = {}
    plan = []
    worked = nothing_worked(yard)
    while worth_left(yard, worked, known) != ZERO:
        number = best_next(yard, worked, known)[0]
        plan.append(number)
        worked = with_one_more(worked, number)
    return plan


def is_plan(yard, value):
    """Whether any value is a plan of a yard."""
    require_yard(yard)
    if not isinstance(value, list) or not all(is_number_below(entry, len(yard[1])) for entry in value):
        return False
    return all(value.count(number) <= len(project) for number, project in enumerate(yard[1]))


def plan_worth(yard, plan):
    """The worth of a plan of a yard."""
    if not is_plan(yard, plan):
        raise BadPlan(plan)
    return paid_in_all(yard[0], pays_of_plan(yard, plan))


def next_projects(yard, worked):
    """The ascending list of the numbers of all projects with which a best plan for the days left begins."""
    require_yard(yard)
    if not is_worked(yard, worked):
        raise BadWorked(worked)
    return best_next(yard, worked, {})
