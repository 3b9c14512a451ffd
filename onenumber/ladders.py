"""Ladders: what is one, its pays, the weights left behind its rungs, and its chain."""

from onenumber.amounts import ONE, add_all, divide, subtract
from onenumber.errors import BadLadder, TooMany
from onenumber.frames import has_frame
from onenumber.pairs import NOTHING, is_pair, turn_of_pairs
from onenumber.terms import END, MOST_STEPS

MOST_RUNGS = 64


def is_rung(value):
    """Whether any value is a pair that is not ((0, 1), (0, 1))."""
    return is_pair(value) and value != NOTHING


def weights_left(rungs):
    """The list of the weights left behind each rung."""
    weights = []
    weight = ONE
    for _, fall in rungs:
        weight = subtract(weight, fall)
        weights.append(weight)
    return weights


def leave_enough(weights):
    """Whether the last weight left is not below 0, and those ahead of it are above 0."""
    return all(top > 0 for top, _ in weights[:-1]) and all(top >= 0 for top, _ in weights[-1:])


def is_ladder(value):
    """Whether any value is a ladder."""
    if not isinstance(value, tuple) or len(value) > MOST_RUNGS:
        return False
    if not all(is_rung(entry) for entry in value) or not leave_enough(weights_left(value)):
        return False
    if not all(turn_of_pairs(rung, after) > 0 for rung, after in zip(value, value[1:])):
        return False
    return has_frame(value)


def require_ladder(value):
    if not is_ladder(value):
        raise BadLadder(value)


def require_ladders(values):
    """Raises BadLadder with the first entry of a list or tuple that is no ladder."""
    for value in values:
        require_ladder(value)


def all_rungs(ladders):
    """The rungs of some ladders, one ladder behind the other."""
    return [rung for ladder in ladders for rung in ladder]


def sum_of_pays(rungs):
    return add_all([pay for pay, _ in rungs])


def chain_of(ladder):
    """The chain of a ladder of any length (so it may have more steps than a term)."""
    weights = [ONE] + weights_left(ladder)
    rest = END
    for number in reversed(range(len(ladder))):
        ahead, behind = weights[number], weights[number + 1]
        outcomes = () if behind[0] == 0 else ((divide(behind, ahead), rest),)
        rest = ("step", divide(ladder[number][0], ahead), outcomes)
    return rest


def pays(ladder):
    """The sum of the pays of a ladder."""
    require_ladder(ladder)
    return sum_of_pays(ladder)


def left(ladder):
    """The list of the weights left behind each rung of a ladder."""
    require_ladder(ladder)
    return weights_left(ladder)


def chain(ladder):
    """The chain of a ladder of at most 16 rungs."""
    require_ladder(ladder)
    if len(ladder) > MOST_STEPS:
        raise TooMany(MOST_STEPS)
    return chain_of(ladder)


def is_same_frame(ladders):
    """Whether the rungs of a list or tuple of ladders have a frame together."""
    require_ladders(ladders)
    return has_frame(all_rungs(ladders))
