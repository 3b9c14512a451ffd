"""Conditions: groups of tests, which are asked one after the other until the condition is known.

The functions below the checks trust that they are handed groups and conditions; those of the interface look first.
"""

from onenumber.amounts import (
    ONE,
    ZERO,
    add_all,
    is_from_zero,
    is_number_below,
    is_proper,
    least,
    multiply,
    negative,
    subtract,
)
from onenumber.errors import BadCondition, BadGroup, BadGroupOrder, BadStanding
from onenumber.forests import best_run, is_sequence, run_of
from onenumber.terms import END

MOST_TESTS = 4
MOST_GROUPS = 3
MOST_TESTS_IN_ALL = 8


def is_test(value, number):
    """Whether any value is the test of this number of a group."""
    if not isinstance(value, tuple) or len(value) != 3:
        return False
    price, share, guard = value
    if guard is not None and not is_number_below(guard, number):
        return False
    return is_from_zero(price) and is_proper(share)


def is_group(value):
    """Whether any value is a group."""
    if not isinstance(value, tuple) or not 1 <= len(value) <= MOST_TESTS:
        return False
    return all(is_test(entry, number) for number, entry in enumerate(value))


def is_condition(value):
    """Whether any value is a condition."""
    if not isinstance(value, tuple) or not 1 <= len(value) <= MOST_GROUPS:
        return False
    return all(is_group(entry) for entry in value) and sum([len(group) for group in value]) <= MOST_TESTS_IN_ALL


def require_group(value):
    if not is_group(value):
        raise BadGroup(value)


def require_condition(value):
    if not is_condition(value):
        raise BadCondition(value)


def as_forest(group):
    """The forest of a group's tests: each is worth its price less, and leaves its share of the weight."""
    return tuple([(guard, negative(price), share) for price, share, guard in group])


def term_of_group(group, order):
    term = None
    for number in order[::-1]:
        price, share, _ = group[number]
        outcomes = ((subtract(ONE, share), END),)
        if term is not None:
            outcomes = ((share, term),) + outcomes
        term = ("step", negative(price), outcomes)
    return term


def is_true(answers):
    """Whether all tests of a group have been asked and are true."""
    return all(answer is True for answer in answers)


def is_false(answers):
    """Whether some test of a group has been asked and is false."""
    return any(answer is False for answer in answers)


def is_known(standing):
    return any(is_true(answers) for answers in standing) or all(is_false(answers) for answers in standing)


def are_answers(value, group):
    """Whether any value tells what may have been answered by the tests of a group."""
    if not isinstance(value, tuple) or len(value) != len(group):
        return False
    for answer, (_, _, guard) in zip(value, group):
        if answer is not None and answer is not True and answer is not False:
            return False
        if answer is not None and guard is not None and value[guard] is not True:
            return False
    return len([answer for answer in value if answer is False]) <= 1


def can_come_about(condition, value):
    """Whether any value is a standing of a condition."""
    if not isinstance(value, tuple) or len(value) != len(condition):
        return False
    if not all(are_answers(answers, group) for answers, group in zip(value, condition)):
        return False
    return len([answers for answers in value if is_true(answers)]) <= 1


def require_condition_and_standing(condition, standing):
    require_condition(condition)
    if not can_come_about(condition, standing):
        raise BadStanding(standing)


def tests_that_are_open(condition, standing):
    """The ascending list of the tuples (group, test) of all open tests."""
    found = []
    for place, group in enumerate(condition):
        answers = standing[place]
        if is_known(standing) or is_false(answers):
            continue
        for number, (_, _, guard) in enumerate(group):
            if answers[number] is None and (guard is None or answers[guard] is True):
                found.append((place, number))
    return found


def with_answer(standing, test, answer):
    place, number = test
    answers = standing[place][:number] + (answer,) + standing[place][number + 1:]
    return standing[:place] + (answers,) + standing[place + 1:]


def cost_of_asking(condition, standing, test, known):
    """The least mean of what is still paid if a test is asked next."""
    price, share, _ = condition[test[0]][test[1]]
    if_true = least_cost_left(condition, with_answer(standing, test, True), known)
    if_false = least_cost_left(condition, with_answer(standing, test, False), known)
    return add_all([price, multiply(share, if_true), multiply(subtract(ONE, share), if_false)])


def least_cost_left(condition, standing, known):
    """The least mean of what is still paid; known keeps what has been worked out."""
    if is_known(standing):
        return ZERO
    # Which test of a group is false is all the same from then on.
    key = tuple([None if is_false(answers) else answers for answers in standing])
    if key not in known:
        tests = tests_that_are_open(condition, standing)
        known[key] = least([cost_of_asking(condition, standing, test, known) for test in tests])
    return known[key]


def is_group_order(group, value):
    """Whether any value is an order of a group."""
    require_group(group)
    return is_sequence([guard for _, _, guard in group], value)


def require_group_and_order(group, order):
    if not is_group_order(group, order):
        raise BadGroupOrder(order)


def group_cost(group, order):
    """The cost of an order of a group."""
    require_group_and_order(group, order)
    return negative(run_of(as_forest(group), order)[0])


def group_term(group, order):
    """The term of a group by an order."""
    require_group_and_order(group, order)
    return term_of_group(group, order)


def least_order(group):
    """Any order of a group of the least cost."""
    require_group(group)
    return best_run(as_forest(group))[1]


def condition_terms(condition):
    """The tuple of the terms of a condition's groups, each by any order of the least cost."""
    require_condition(condition)
    return tuple([term_of_group(group, least_order(group)) for group in condition])


def condition_cost(condition):
    """The cost of a condition."""
    require_condition(condition)
    return least_cost_left(condition, tuple([(None,) * len(group) for group in condition]), {})


def is_standing(condition, value):
    """Whether any value is a standing of a condition."""
    require_condition(condition)
    return can_come_about(condition, value)


def open_tests(condition, standing):
    """The ascending list of the tuples (group, test) of all open tests."""
    require_condition_and_standing(condition, standing)
    return tests_that_are_open(condition, standing)


def best_tests(condition, standing):
    """The ascending list of the open tests by which, asked next, the least mean of what is still paid can be had."""
    require_condition_and_standing(condition, standing)
    known = {}
    best = least_cost_left(condition, standing, known)
    return [test for test in tests_that_are_open(condition, standing)
            if cost_of_asking(condition, standing, test, known) == best]


def cost_left(condition, standing):
    """The least mean of what is still paid."""
    require_condition_and_standing(condition, standing)
    return least_cost_left(condition, standing, {})
