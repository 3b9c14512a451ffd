"""Terms and mixes: what is one, its parts and steps, and terms that are rearranged.

The functions below the checks trust that they are handed terms; those of the interface look first.
"""

from onenumber.amounts import ONE, add_all, is_above_zero, is_fraction, subtract
from onenumber.errors import BadMix, BadTerm
from onenumber.pairs import NOTHING

END = ("end",)
MOST_STEPS = 16
MOST_PARTS = 48
MOST_TERMS = 4
MOST_MIX_PARTS = 96


def is_outcome(value):
    """Whether any value is a tuple of a weight and whatever else."""
    return isinstance(value, tuple) and len(value) == 2 and is_above_zero(value[0])


def has_form_of_step(value):
    """Whether a tuple is a step but for the values that stand for the terms of its outcomes."""
    if len(value) != 3 or not is_fraction(value[1]):
        return False
    outcomes = value[2]
    return isinstance(outcomes, tuple) and len(outcomes) <= 3 and all(is_outcome(entry) for entry in outcomes)


def has_form_of_all(value):
    """Whether a tuple is an "all" but for the values that stand for its terms."""
    return len(value) == 2 and isinstance(value[1], tuple) and 2 <= len(value[1]) <= 3


def has_form_of_term(value):
    """Whether any value is a term but for the values that stand for the terms right within it."""
    if not isinstance(value, tuple) or not value:
        return False
    if value[0] == "step":
        return has_form_of_step(value)
    if value[0] == "all":
        return has_form_of_all(value)
    return value == END


def is_step(term):
    return term[0] == "step"


def children(term):
    """The list of the terms right within a term (of what has the form of one, too)."""
    if is_step(term):
        return [inner for _, inner in term[2]]
    if term[0] == "all":
        return list(term[1])
    return []


def measure(value):
    """How many steps and parts any value has as a term, or None if it is none."""
    # No recursion, and an end at the bound: a value may be nested deeper, and have more parts, than any term.
    waiting = [value]
    step_count = part_count = 0
    while waiting:
        part = waiting.pop()
        if not has_form_of_term(part):
            return None
        part_count += 1
        if is_step(part):
            step_count += 1
        if step_count > MOST_STEPS or part_count > MOST_PARTS:
            return None
        waiting.extend(children(part))
    return (step_count, part_count)


def is_term(value):
    """Whether any value is a term."""
    return measure(value) is not None


def is_mix(value):
    """Whether any value is a mix."""
    if not isinstance(value, tuple) or not 1 <= len(value) <= MOST_TERMS:
        return False
    step_count = part_count = 0
    for entry in value:
        measured = measure(entry)
        if measured is None:
            return False
        step_count += measured[0]
        part_count += measured[1]
    return step_count <= MOST_STEPS and part_count <= MOST_MIX_PARTS


def require_term(value):
    if not is_term(value):
        raise BadTerm(value)


def require_mix(value):
    if not is_mix(value):
        raise BadMix(value)


def all_parts(term):
    """The list of a term's parts: itself, then those of the terms right within it, in their sequence."""
    found = []
    waiting = [term]
    while waiting:
        part = waiting.pop()
        found.append(part)
        waiting.extend(children(part)[::-1])
    return found


def all_steps(term):
    return [part for part in all_parts(term) if is_step(part)]


def step_pair(step):
    """The pair of a step: its pay, and 1 less the weights of its outcomes."""
    return (step[1], subtract(ONE, add_all([weight for weight, _ in step[2]])))


def ordered(term):
    """The rearranged term that is in order."""
    if is_step(term):
        outcomes = [(weight, ordered(inner)) for weight, inner in term[2]]
        return ("step", term[1], tuple(sorted(outcomes)))
    if term[0] == "all":
        inners = [ordered(inner) for inner in term[1]]
        return ("all", tuple(sorted(inners)))
    return term


def parts(term):
    """The list of the parts of a term."""
    require_term(term)
    return all_parts(term)


def steps(term):
    """The list of the steps of a term."""
    require_term(term)
    return all_steps(term)


def pairs_of(term):
    """The list of the pairs of the steps of a term."""
    require_term(term)
    return [step_pair(step) for step in all_steps(term)]


def pair_of(step):
    """The pair of a step."""
    if not is_term(step) or not is_step(step):
        raise BadTerm(step)
    return step_pair(step)


def is_toss(value):
    """Whether any value is a step whose pair is ((0, 1), (0, 1))."""
    return is_term(value) and is_step(value) and step_pair(value) == NOTHING


def in_order(term):
    """The rearranged term that is in order."""
    require_term(term)
    return ordered(term)


def are_rearranged(one, other):
    """Whether one of two terms comes of the other one by putting outcomes and members in other sequences."""
    require_term(one)
    require_term(other)
    return ordered(one) == ordered(other)
