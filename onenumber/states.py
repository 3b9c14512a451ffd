"""The states of a mix, and its size, which bounds how many they are."""

from onenumber.errors import TooMany
from onenumber.places import behind, front_steps
from onenumber.terms import children, is_step, require_mix
from onenumber.termtexts import mix_text

MOST_SIZE = 400


def product_of(integers):
    result = 1
    for integer in integers:
        result *= integer
    return result


def size_of_term(term):
    inner_sizes = [size_of_term(inner) for inner in children(term)]
    if is_step(term):
        return 1 + sum(inner_sizes)
    return product_of(inner_sizes)


def size_of_mix(mix):
    return product_of([size_of_term(term) for term in mix])


def explored(mix):
    """The list of the states of a mix, and for each state the list of its moves.

    A move is a tuple (place, pay, outcomes) for a front step, with the tuples (weight, number of a state) behind it.
    """
    found = [mix]
    # A mix may be nested deeper than a key: its text stands for it.
    numbers = {mix_text(mix): 0}
    moves = []
    while len(moves) < len(found):
        here = found[len(moves)]
        ways_on = []
        for place, step in front_steps(here):
            outcomes = []
            for weight, state in behind(here, place, step):
                text = mix_text(state)
                if text not in numbers:
                    numbers[text] = len(found)
                    found.append(state)
                outcomes.append((weight, numbers[text]))
            ways_on.append((place, step[1], outcomes))
        moves.append(ways_on)
    return (found, moves)


def require_few_states(mix):
    if size_of_mix(mix) > MOST_SIZE:
        raise TooMany(MOST_SIZE)


def size(mix):
    """The size of a mix: it has at most so many states."""
    require_mix(mix)
    return size_of_mix(mix)


def states(mix):
    """The list of the states of a mix, in the sequence in which they are first met."""
    require_mix(mix)
    require_few_states(mix)
    return explored(mix)[0]
