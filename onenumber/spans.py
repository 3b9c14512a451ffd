"""Mixes with an open pay: their worth, and what is done first in them, as functions of the value that this pay has.

The functions below the checks trust that they are handed mixes, spots and habits; those of the interface look first.
"""

from onenumber.amounts import ONE, ZERO, greatest, is_below, is_fraction, simplest_between, subtract
from onenumber.convex import greatest_of, straight, sum_of, times_weight, turns_of, value_at
from onenumber.errors import BadFirst, BadPlace, BadValue
from onenumber.floors import few_steps_first
from onenumber.places import front_steps, is_path, part_of_mix_at
from onenumber.states import MOST_SIZE, explored
from onenumber.terms import is_step, require_mix
from onenumber.worths import FREE, require_habit


def function_of_move(move, functions):
    """What a move brings: its pay, the value itself where this is open, and the worths of the states behind."""
    _, pay, outcomes = move
    paid = straight(ZERO, ONE) if pay is None else straight(pay, ZERO)
    return sum_of([paid] + [times_weight(functions[number], weight) for weight, number in outcomes])


def functions_of_states(states, moves, habit):
    """The list of the worths of the states."""
    found = [None for _ in states]
    for number in few_steps_first(states):
        # Leaving pays nothing, and neither does a state without steps.
        rest = [straight(ZERO, ZERO)] if habit == FREE or not moves[number] else []
        found[number] = greatest_of(rest + [function_of_move(move, found) for move in moves[number]])
    return found


def worked_out(mix, spot, habit):
    """The worth of a mix with an open pay, and the list of the tuples (first deed, what can be had by it)."""
    # The states of the mix as it was handed in are few; with the open step told apart they are at most twice as many.
    explored(mix, None, MOST_SIZE)
    states, moves = explored(mix, spot)
    functions = functions_of_states(states, moves, habit)
    deeds = [(None, straight(ZERO, ZERO))] if habit == FREE else []
    deeds.extend([(move[0], function_of_move(move, functions)) for move in moves[0]])
    return (functions[0], deeds)


def first_by(worth, deeds, value):
    """The list of the deeds that are first by a value."""
    best = value_at(worth, value)
    return [deed for deed, brought in deeds if value_at(brought, value) == best]


def greatest_loss(worth, brought, low, high):
    """By how much a worth is above what is brought at most, from low to high, and any value at which it is."""
    # Between such values what is brought is a line, so that the loss is greatest at one of them.
    values = [low] + [turn for turn in turns_of(brought) if is_below(low, turn) and is_below(turn, high)] + [high]
    losses = [subtract(value_at(worth, value), value_at(brought, value)) for value in values]
    most = greatest(losses)
    return (most, values[losses.index(most)])


def require_spot(mix, spot, habit):
    """Raises BadMix, BadPlace, then BadHabit, for any values as a mix, the place of one of its steps, and a habit."""
    require_mix(mix)
    part = part_of_mix_at(mix, spot)
    if part is None or not is_step(part):
        raise BadPlace(spot)
    require_habit(habit)


def require_first(mix, habit, value):
    """Raises BadFirst for any value that is no first deed."""
    if value is None and habit == FREE:
        return
    if not is_path(value) or value not in [place for place, _ in front_steps(mix)]:
        raise BadFirst(value)


def require_value(value):
    if not is_fraction(value):
        raise BadValue(value)


def require_span(low, high):
    """Raises BadValue for any values that are no low value and one that is not less."""
    require_value(low)
    require_value(high)
    if is_below(high, low):
        raise BadValue(high)


def pieces(mix, spot, habit):
    """The pieces of the worth of a mix with an open pay."""
    require_spot(mix, spot, habit)
    return worked_out(mix, spot, habit)[0]


def turns(mix, spot, habit):
    """The list of the turns of the worth of a mix with an open pay."""
    return turns_of(pieces(mix, spot, habit))


def worth_at(mix, spot, habit, value):
    """The worth of a mix whose open pay has a value."""
    require_spot(mix, spot, habit)
    require_value(value)
    return value_at(worked_out(mix, spot, habit)[0], value)


def firsts(mix, spot, habit):
    """The list of the tuples (start, at, behind): what is first just at a value, and from there on."""
    require_spot(mix, spot, habit)
    worth, deeds = worked_out(mix, spot, habit)
    # Along a piece of the worth, what a deed brings is the worth everywhere or nowhere: no change is between turns.
    bounds = turns_of(worth) + [None]
    found = [(None, None, first_by(worth, deeds, simplest_between(None, bounds[0])))]
    for start, end in zip(bounds, bounds[1:]):
        at = first_by(worth, deeds, start)
        behind = first_by(worth, deeds, simplest_between(start, end))
        if at != found[-1][2] or behind != found[-1][2]:
            found.append((start, at, behind))
    return found


def regret(mix, spot, habit, first, low, high):
    """The tuple (regret, value) of a first deed from a low value to a high one."""
    require_spot(mix, spot, habit)
    require_first(mix, habit, first)
    require_span(low, high)
    worth, deeds = worked_out(mix, spot, habit)
    return greatest_loss(worth, dict(deeds)[first], low, high)


def guard(mix, spot, habit, low, high):
    """Any first deed with the least regret from a low value to a high one."""
    require_spot(mix, spot, habit)
    require_span(low, high)
    worth, deeds = worked_out(mix, spot, habit)
    best, least = None, None
    for deed, brought in deeds:
        most, _ = greatest_loss(worth, brought, low, high)
        if least is None or is_below(most, least):
            best, least = deed, most
    return best
