"""Worths of ladders, mixes and companies by a habit.

The functions below the checks trust that there is a frame; those of the interface look first.
"""

from onenumber.algebra import joined
from onenumber.amounts import ONE, is_from_zero, require_fraction, subtract
from onenumber.errors import BadFraction, BadHabit, BadLadders
from onenumber.frames import require_frame
from onenumber.ladders import all_rungs, is_ladder, require_ladder, sum_of_pays
from onenumber.numbers import ladder_of_mix, pairs_for_frame
from onenumber.pairs import NOTHING
from onenumber.terms import require_mix

DONE = "done"
FREE = "free"
# In a frame with this pair the rungs that pay are those ahead of it.
LEAVING = ((0, 1), (1, 1))
MOST_LADDERS = 4


def is_habit(value):
    """Whether any value is a habit."""
    return isinstance(value, str) and value in (DONE, FREE)


def require_habit(value):
    if not is_habit(value):
        raise BadHabit(value)


def with_leaving(pairs, habit):
    """The pairs that must have a frame where these occur: by "free" one more, behind them."""
    return pairs + [LEAVING] if habit == FREE else pairs


def rungs_that_pay(rungs):
    return tuple([rung for rung in rungs if rung[0][0] > 0])


def counted_rungs(ladder, habit):
    """The rungs of a ladder that count by a habit."""
    return rungs_that_pay(ladder) if habit == FREE else ladder


def worth_of_ladder(ladder, habit):
    return sum_of_pays(counted_rungs(ladder, habit))


def worth_of_mix(mix, habit):
    return worth_of_ladder(ladder_of_mix(mix), habit)


def require_fit(mix, habit):
    """Raises BadMix, BadHabit, then NoFrame, for any value as a mix that fits a habit."""
    require_mix(mix)
    require_habit(habit)
    require_frame(with_leaving(pairs_for_frame(mix), habit))


def ladder_worth(ladder, habit):
    """The worth of a ladder."""
    require_ladder(ladder)
    require_habit(habit)
    require_frame(with_leaving(list(ladder), habit))
    return worth_of_ladder(ladder, habit)


def worth(mix, habit):
    """The worth of a mix."""
    require_fit(mix, habit)
    return worth_of_mix(mix, habit)


def are_ladders(value):
    """Whether any value is a tuple of 1 to 4 ladders."""
    if not isinstance(value, tuple) or not 1 <= len(value) <= MOST_LADDERS:
        return False
    return all(is_ladder(entry) for entry in value)


def company_worth(ladders, habit):
    """The worth of a tuple of 1 to 4 ladders side by side."""
    if not are_ladders(ladders):
        raise BadLadders(ladders)
    require_habit(habit)
    require_frame(with_leaving(all_rungs(ladders), habit))
    return worth_of_ladder(joined(ladders), habit)


def require_factor(value):
    """Raises BadFraction for any value that is no fraction from 0 on."""
    if not is_from_zero(value):
        raise BadFraction(value)


def beside(ladder, pay, factor, habit):
    """The worth of a ladder beside one step with this pay and this factor."""
    require_ladder(ladder)
    require_fraction(pay)
    require_factor(factor)
    require_habit(habit)
    pair = (pay, subtract(ONE, factor))
    step_ladder = () if pair == NOTHING else (pair,)
    require_frame(with_leaving(list(ladder) + list(step_ladder), habit))
    return worth_of_ladder(joined([ladder, step_ladder]), habit)
