"""The states of a mix, and its size, which bounds how many they are."""

from onenumber.errors import TooMany
from onenumber.places import behind, front_steps
from onenumber.terms import children, is_step, require_mix
from onenumber.termtexts import mix_text

MOST_SIZE = 400


def product_of(integers):
    result = 1
    for integer in integers:
        result *= integer
    return result


def size_of_term(term):
    inner_sizes = [size_of_term(inner) for inner in children(term)]
    if is_step(term):
        return 1 + sum(inner_sizes)
    return product_of(inner_sizes)


def size_of_mix(mix):
    return product_of([size_of_term(term) for term in mix])


def spot_behind(spot, place, number):
    """Where in a mix what stood at a spot is once the step at a place is done with this outcome, or None."""
    if spot is None or spot[:len(place)] != place:
        return spot
    if len(spot) == len(place) or spot[len(place)] != number:
        return None
    return place + spot[len(place) + 1:]


def explored(mix, spot=None, most=None):
    """The list of the states of a mix, and for each state the list of its moves; raises TooMany if there are too many.

    A move is a tuple (place, pay, outcomes) for a front step, with the tuples (weight, number of a state) behind it.
    The pay of the step at a spot is None; states in which this step stands elsewhere, or nowhere, are unlike.
    """
    found = [(mix, spot)]
    # A mix may be nested deeper than a key: its text stands for it.
    numbers = {(mix_text(mix), spot): 0}
    moves = []
    while len(moves) < len(found):
        here, spot_here = found[len(moves)]
        ways_on = []
        for place, step in front_steps(here):
            outcomes = []
            for number, (weight, state) in enumerate(behind(here, place, step)):
                spot_there = spot_behind(spot_here, place, number)
                key = (mix_text(state), spot_there)
                if key not in numbers:
                    numbers[key] = len(found)
                    found.append((state, spot_there))
                outcomes.append((weight, numbers[key]))
            ways_on.append((place, None if place == spot_here else step[1], outcomes))
        moves.append(ways_on)
        if most is not None and len(found) > most:
            raise TooMany(most)
    return ([state for state, _ in found], moves)


def require_few_states(mix):
    if size_of_mix(mix) > MOST_SIZE:
        raise TooMany(MOST_SIZE)


def size(mix):
    """The size of a mix: it has at most so many states."""
    require_mix(mix)
    return size_of_mix(mix)


def states(mix):
    """The list of the states of a mix, in the sequence in which they are first met."""
    require_mix(mix)
    require_few_states(mix)
    return explored(mix)[0]
