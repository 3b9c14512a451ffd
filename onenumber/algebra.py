"""What is done with ladders: rungs put together, a step glued, ladders side by side and blended.

The functions below the checks trust that there is a frame, and take any number of rungs; those of the interface
look first.
"""

from onenumber.amounts import ONE, is_above_zero, multiply_all, subtract
from onenumber.errors import BadLadder, TooMany
from onenumber.frames import by_ahead, require_frame
from onenumber.ladders import MOST_RUNGS, all_rungs, is_ladder, require_ladders
from onenumber.pairs import NOTHING, add_pairs, multiply_pair, require_pair, require_pairs, turn_of_pairs


def without_nothing(pairs):
    return [pair for pair in pairs if pair != NOTHING]


def gathered(pairs):
    """Rungs put together: those that are nothing left out, level ones added, by "ahead"."""
    rungs = without_nothing(pairs)
    return tuple([add_pairs([rungs[number] for number in level]) for level in by_ahead(rungs)])


def glued(pair, pairs):
    """A step of this pair with such rungs behind it."""
    behind = list(gathered(pairs))
    if pair == NOTHING:
        return tuple(behind)
    whole = pair
    taken = 0
    while taken < len(behind) and turn_of_pairs(behind[taken], whole) > 0:
        whole = add_pairs([whole, behind[taken]])
        taken += 1
    return gathered([whole] + behind[taken:])


def joined(ladders):
    """Some ladders side by side."""
    # Empty ladders change nothing, and there may be thousands of them.
    filled = [ladder for ladder in ladders if ladder]
    owners = [number for number, ladder in enumerate(filled) for _ in ladder]
    rungs = all_rungs(filled)
    weights = [ONE for _ in filled]
    taken = []
    for level in by_ahead(rungs):
        for number in level:
            owner = owners[number]
            others = multiply_all(weights[:owner] + weights[owner + 1:])
            taken.append(multiply_pair(rungs[number], others))
            weights[owner] = subtract(weights[owner], rungs[number][1])
    return gathered(taken)


def blended(shares):
    """The rungs of some tuples (weight, ladder), times their weights, put together."""
    return gathered([multiply_pair(rung, weight) for weight, ladder in shares for rung in ladder])


def require_few_in_frame(ladders):
    """Raises TooMany, then NoFrame, for the rungs of some ladders as they stand in them."""
    rungs = all_rungs(ladders)
    if len(rungs) > MOST_RUNGS:
        raise TooMany(MOST_RUNGS)
    require_frame(rungs)


def is_share(value):
    """Whether any value is a tuple of a weight above 0 and a ladder."""
    return isinstance(value, tuple) and len(value) == 2 and is_above_zero(value[0]) and is_ladder(value[1])


def put_together(rungs):
    """The rungs of a list or tuple put together, a tuple."""
    require_pairs(rungs)
    require_frame(without_nothing(rungs))
    return gathered(rungs)


def glue(pair, rungs):
    """The ladder-like tuple of a step of this pair with such rungs behind it."""
    require_pair(pair)
    require_pairs(rungs)
    require_frame(without_nothing([pair, *rungs]))
    return glued(pair, rungs)


def side_by_side(ladders):
    """The ladder of a list or tuple of ladders side by side."""
    require_ladders(ladders)
    require_few_in_frame(ladders)
    return joined(ladders)


def blend(shares):
    """The rungs of a list or tuple of tuples (weight, ladder), times their weights, put together."""
    for entry in shares:
        if not is_share(entry):
            raise BadLadder(entry)
    require_few_in_frame([ladder for _, ladder in shares])
    return blended(shares)
