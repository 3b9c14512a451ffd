"""Floors: what is paid from each state of a mix on at most; covers of them, and courses."""

from onenumber.amounts import ZERO, add_all, greatest, is_below, is_fraction, multiply
from onenumber.errors import BadCourse
from onenumber.places import is_path
from onenumber.states import explored, require_few_states
from onenumber.terms import all_steps, require_mix
from onenumber.worths import FREE, require_habit


def require_explorable(mix, habit):
    """Raises BadMix, BadHabit, then TooMany, for any values as a mix of few states and a habit."""
    require_mix(mix)
    require_habit(habit)
    require_few_states(mix)


def value_of(move, worths):
    """What a move brings: its pay, and what the states behind it are worth, by their numbers."""
    _, pay, outcomes = move
    return add_all([pay] + [multiply(weight, worths[number]) for weight, number in outcomes])


def count_of_steps(state):
    return sum([len(all_steps(term)) for term in state])


def few_steps_first(states):
    """The numbers of the states, so that those behind a state come ahead of it."""
    counts = [count_of_steps(state) for state in states]
    return sorted(range(len(states)), key=lambda number: counts[number])


def floors_of(states, moves, habit):
    """The list of the floors of the states."""
    found = [ZERO for _ in states]
    for number in few_steps_first(states):
        # Leaving pays nothing, and neither does a state without steps.
        rest = [ZERO] if habit == FREE or not moves[number] else []
        found[number] = greatest(rest + [value_of(move, found) for move in moves[number]])
    return found


def best_of(moves, worths, number, habit):
    """The places of the best steps at a state of this number, with None behind them where leaving is best."""
    best = [move[0] for move in moves[number] if value_of(move, worths) == worths[number]]
    if habit == FREE and worths[number] == ZERO:
        best.append(None)
    return best


def are_fractions(value, count):
    """Whether any value is a list of so many fractions."""
    return isinstance(value, list) and len(value) == count and all(is_fraction(entry) for entry in value)


def covers(moves, habit, value):
    """Whether a list of fractions, one for each state, is a cover."""
    for number, amount in enumerate(value):
        if (habit == FREE or not moves[number]) and amount[0] < 0:
            return False
        if any(is_below(amount, value_of(move, value)) for move in moves[number]):
            return False
    return True


def is_entry(value, moves, habit):
    """Whether any value is an entry of a course for a state with these moves."""
    if value is None:
        return habit == FREE or not moves
    # A place with True in it would be found, too.
    return is_path(value) and value in [move[0] for move in moves]


def require_course(value, moves, habit):
    if not isinstance(value, list) or len(value) != len(moves):
        raise BadCourse(value)
    for entry, moves_there in zip(value, moves):
        if not is_entry(entry, moves_there, habit):
            raise BadCourse(value)


def floors(mix, habit):
    """The list of the floors of all states of a mix."""
    require_explorable(mix, habit)
    states, moves = explored(mix)
    return floors_of(states, moves, habit)


def floor(mix, habit):
    """The floor of a mix."""
    return floors(mix, habit)[0]


def best_steps(mix, habit):
    """The list, for all states of a mix, of the lists of the places of the best steps, and None where to leave."""
    require_explorable(mix, habit)
    states, moves = explored(mix)
    worths = floors_of(states, moves, habit)
    return [best_of(moves, worths, number, habit) for number in range(len(states))]


def is_cover(mix, habit, value):
    """Whether any value is a cover of a mix."""
    require_explorable(mix, habit)
    states, moves = explored(mix)
    return are_fractions(value, len(states)) and covers(moves, habit, value)


def is_floors(mix, habit, value):
    """Whether any value is the list of the floors of a mix."""
    right = floors(mix, habit)
    # True and 1 are equal, but not of one kind.
    return value == right and are_fractions(value, len(right))


def course_worths(mix, habit, course):
    """The list of the worths of a course at all states of a mix."""
    require_explorable(mix, habit)
    states, moves = explored(mix)
    require_course(course, moves, habit)
    found = [ZERO for _ in states]
    for number in few_steps_first(states):
        for move in moves[number]:
            if move[0] == course[number]:
                found[number] = value_of(move, found)
    return found


def first_of(best):
    """The first best step, or None if there is none or leaving is best, too."""
    return None if not best or best[-1] is None else best[0]


def best_course(mix, habit):
    """The course that takes the first best step at each state, and leaves by "free" where the floor is 0."""
    return [first_of(best) for best in best_steps(mix, habit)]
