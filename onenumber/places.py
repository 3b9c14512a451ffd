"""Places of terms and mixes, the front of a mix, what is behind a front step, and histories."""

from onenumber.amounts import ONE, ZERO, is_whole, multiply
from onenumber.errors import BadPlace, BadTerm, TooMany
from onenumber.terms import children, is_step, is_term, require_mix, require_term

MOST_HISTORIES = 400


def with_places(term):
    """The list of the tuples (place, part) of all parts of a term, ascending."""
    found = []
    waiting = [((), term)]
    while waiting:
        place, part = waiting.pop()
        found.append((place, part))
        inners = [(place + (number,), inner) for number, inner in enumerate(children(part))]
        waiting.extend(inners[::-1])
    return found


def is_path(value):
    """Whether any value is a tuple of integers."""
    return isinstance(value, tuple) and all(is_whole(number) for number in value)


def part_at(term, place):
    """The part of a term at any value as its place, or None if it is none."""
    if not is_path(place):
        return None
    part = term
    for number in place:
        inners = children(part)
        if not 0 <= number < len(inners):
            return None
        part = inners[number]
    return part


def part_of_mix_at(mix, place):
    """The part of a mix at any value as its place, or None if it is none."""
    if not is_path(place) or not place or not 0 <= place[0] < len(mix):
        return None
    return part_at(mix[place[0]], place[1:])


def with_child(term, number, other):
    """A step or an "all" with another term in place of one right within it."""
    if is_step(term):
        outcomes = list(term[2])
        outcomes[number] = (outcomes[number][0], other)
        return ("step", term[1], tuple(outcomes))
    members = list(term[1])
    members[number] = other
    return ("all", tuple(members))


def replaced(term, place, other):
    """A term with another one at a place of it; whether this is a term is not looked at."""
    around = []
    part = term
    for number in place:
        around.append((part, number))
        part = children(part)[number]
    result = other
    for part, number in around[::-1]:
        result = with_child(part, number, result)
    return result


def replaced_in_mix(mix, place, other):
    """A mix with another term at a place of it; whether this is a mix is not looked at."""
    terms = list(mix)
    terms[place[0]] = replaced(terms[place[0]], place[1:], other)
    return tuple(terms)


def front_of_term(term, place):
    """The ascending list of the tuples (place, step) of the front steps of a term that stands at a place."""
    if is_step(term):
        return [(place, term)]
    found = []
    for number, inner in enumerate(children(term)):
        found.extend(front_of_term(inner, place + (number,)))
    return found


def front_steps(mix):
    """The ascending list of the tuples (place, step) of the steps at the front of a mix."""
    found = []
    for number, term in enumerate(mix):
        found.extend(front_of_term(term, (number,)))
    return found


def step_at_front(mix, place):
    """The step at the front of a mix at any value as its place; raises BadPlace if there is none."""
    if is_path(place):
        for at, step in front_steps(mix):
            if at == place:
                return step
    raise BadPlace(place)


def behind(mix, place, step):
    """The list of the tuples (weight, mix) behind a step at the front, one for each of its outcomes."""
    return [(weight, replaced_in_mix(mix, place, inner)) for weight, inner in step[2]]


def history_count(term):
    inner_counts = [history_count(inner) for inner in children(term)]
    if is_step(term):
        return sum(inner_counts) if inner_counts else 1
    count = 1
    for inner_count in inner_counts:
        count *= inner_count
    return count


def histories_of_step(step, place):
    if not step[2]:
        return [(((place, None),), ZERO)]
    found = []
    for number, (weight, inner) in enumerate(step[2]):
        for history, share in histories_at(inner, place + (number,)):
            found.append((((place, number),) + history, multiply(weight, share)))
    return found


def histories_at(term, place):
    """The ascending list of the tuples (history, weight) of a term that stands at a place."""
    if is_step(term):
        return histories_of_step(term, place)
    found = [((), ONE)]
    for number, inner in enumerate(children(term)):
        more = histories_at(inner, place + (number,))
        found = [(history + new, multiply(share, weight)) for history, share in found for new, weight in more]
    return found


def places(term):
    """The ascending list of all places of a term."""
    require_term(term)
    return [place for place, _ in with_places(term)]


def step_places(term):
    """The ascending list of the places of the steps of a term."""
    require_term(term)
    return [place for place, part in with_places(term) if is_step(part)]


def term_at(term, place):
    """The term at a place of a term."""
    require_term(term)
    part = part_at(term, place)
    if part is None:
        raise BadPlace(place)
    return part


def put_at(term, place, other):
    """The term with another one at one of its places."""
    term_at(term, place)
    require_term(other)
    result = replaced(term, place, other)
    if not is_term(result):
        raise BadTerm(result)
    return result


def front(mix):
    """The ascending list of the places of the steps at the front of a mix."""
    require_mix(mix)
    return [place for place, _ in front_steps(mix)]


def after(mix, place):
    """The list of the tuples (weight, mix) behind a step at the front of a mix."""
    require_mix(mix)
    return behind(mix, place, step_at_front(mix, place))


def count_histories(term):
    """How many histories a term has."""
    require_term(term)
    return history_count(term)


def histories(term):
    """The ascending list of the tuples (history, weight) of a term."""
    require_term(term)
    if history_count(term) > MOST_HISTORIES:
        raise TooMany(MOST_HISTORIES)
    return histories_at(term, ())
