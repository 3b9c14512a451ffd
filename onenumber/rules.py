"""The rule: which step of a mix is done first, and what comes of going by it.

The functions below the checks trust that they are handed a mix that fits the habit; those of the interface look first.
"""

from onenumber.amounts import ONE, ZERO, add, is_number_below, multiply
from onenumber.errors import BadChoice
from onenumber.numbers import TOSS, ladder_of_term, number_of
from onenumber.pairs import turn_of_pairs
from onenumber.places import behind, front_steps, replaced_in_mix
from onenumber.terms import END
from onenumber.worths import FREE, require_fit


def foremost(numbers):
    """The position of the first toss, otherwise of the first number that no other one is ahead of; None of none."""
    best = None
    for position, number in enumerate(numbers):
        if number == TOSS:
            return position
        if best is None or turn_of_pairs(number, numbers[best]) > 0:
            best = position
    return best


def front_numbers_of(steps):
    """The numbers of a list of tuples (place, step)."""
    return [number_of(step, ladder_of_term(step)) for _, step in steps]


def step_by_rule(mix, habit):
    """The tuple (place, step) of the step that the rule does, or None."""
    steps = front_steps(mix)
    numbers = front_numbers_of(steps)
    best = foremost(numbers)
    if best is None:
        return None
    if habit == FREE and numbers[best] != TOSS and numbers[best][0][0] <= 0:
        return None
    return steps[best]


def worth_by_rule(mix, habit):
    """What is paid in all by going by the rule, over all outcomes."""
    ahead = step_by_rule(mix, habit)
    if ahead is None:
        return ZERO
    place, step = ahead
    paid = step[1]
    for weight, state in behind(mix, place, step):
        paid = add(paid, multiply(weight, worth_by_rule(state, habit)))
    return paid


def require_choice(value, step, position):
    """Raises BadChoice for any value that is no number of an outcome of the step that is done then, or of none."""
    if step is None or not is_number_below(value, len(step[1][2])):
        raise BadChoice(position)


def front_numbers(mix, habit):
    """The list of the tuples (place, number) of the front steps of a mix."""
    require_fit(mix, habit)
    steps = front_steps(mix)
    return [(place, number) for (place, _), number in zip(steps, front_numbers_of(steps))]


def rule_step(mix, habit):
    """The place of the step that the rule does in a mix, or None."""
    require_fit(mix, habit)
    ahead = step_by_rule(mix, habit)
    return None if ahead is None else ahead[0]


def rule_walk(mix, habit, choices):
    """The walk of the rule by a list of outcomes: a tuple (places, mix, weight, paid)."""
    require_fit(mix, habit)
    done = []
    here, weight, paid = mix, ONE, ZERO
    ahead = step_by_rule(here, habit)
    for position, choice in enumerate(choices):
        require_choice(choice, ahead, position)
        place, (_, pay, outcomes) = ahead
        done.append(place)
        paid = add(paid, multiply(weight, pay))
        weight = multiply(weight, outcomes[choice][0])
        here = replaced_in_mix(here, place, outcomes[choice][1])
        ahead = step_by_rule(here, habit)
    if ahead is not None and not ahead[1][2]:
        done.append(ahead[0])
        paid = add(paid, multiply(weight, ahead[1][1]))
        weight = ZERO
        here = replaced_in_mix(here, ahead[0], END)
    return (done, here, weight, paid)


def rule_worth(mix, habit):
    """The worth of a mix, worked out by going by the rule through all outcomes."""
    require_fit(mix, habit)
    return worth_by_rule(mix, habit)
