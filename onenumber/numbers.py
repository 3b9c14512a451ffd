"""Ladders of terms and mixes, and the numbers of steps.

The functions below the checks trust that there is a frame; those of the interface look first.
"""

from onenumber.algebra import blended, glued, joined
from onenumber.frames import require_frame
from onenumber.pairs import NOTHING
from onenumber.terms import all_parts, all_steps, children, is_step, require_mix, require_term, step_pair

TOSS = "toss"


def pairs_for_frame(terms):
    """The pairs of the steps that are no tosses, one term behind the other, in the sequence of steps."""
    found = []
    for term in terms:
        found.extend([step_pair(step) for step in all_steps(term)])
    return [pair for pair in found if pair != NOTHING]


def ladder_from(term, inner_ladders):
    """The ladder of a term, from the ladders of the terms right within it."""
    if is_step(term):
        shares = [(weight, ladder) for (weight, _), ladder in zip(term[2], inner_ladders)]
        return glued(step_pair(term), blended(shares))
    return joined(inner_ladders)


def ladders_of_parts(term):
    """The list of the ladders of a term's parts, in the sequence of parts."""
    within = [ladders_of_parts(inner) for inner in children(term)]
    whole = ladder_from(term, [ladders[0] for ladders in within])
    return [whole] + [ladder for ladders in within for ladder in ladders]


def ladder_of_term(term):
    return ladders_of_parts(term)[0]


def ladder_of_mix(mix):
    return joined([ladder_of_term(term) for term in mix])


def number_of(step, ladder):
    """The number of a step that has this ladder."""
    if step_pair(step) == NOTHING:
        return TOSS
    return ladder[0]


def ladder_of(term):
    """The ladder of a term."""
    require_term(term)
    require_frame(pairs_for_frame([term]))
    return ladder_of_term(term)


def numbers(term):
    """The list of the numbers of a term's steps, in their sequence."""
    require_term(term)
    require_frame(pairs_for_frame([term]))
    return [number_of(part, ladder) for part, ladder in zip(all_parts(term), ladders_of_parts(term)) if is_step(part)]


def mix_ladder(mix):
    """The ladder of a mix."""
    require_mix(mix)
    require_frame(pairs_for_frame(mix))
    return ladder_of_mix(mix)
