"""What a day is at one moment, and what each deed makes of it.

A moment is a dict of the mix, the habit, the weight, the four amounts, what is to come, and whether the day is over.
No moment is changed: a deed makes a new one, or raises an error.
"""

from onenumber.amounts import ONE, ZERO, add, add_all, is_number_below, multiply, subtract
from onenumber.errors import BadHabit, BadNumber, BadOutcome, TooMany
from onenumber.frames import require_frame
from onenumber.numbers import pairs_for_frame
from onenumber.places import behind, front_steps, replaced_in_mix, step_at_front
from onenumber.rules import step_by_rule
from onenumber.terms import END, all_steps, require_mix, require_term
from onenumber.worths import DONE, FREE, require_habit, with_leaving, worth_of_mix

MOST_DEEDS = 100


def moment_at_first(mix, habit):
    """The first moment of a day that leads a mix that fits its habit."""
    return {
        "mix": mix,
        "habit": habit,
        "weight": ONE,
        "paid": ZERO,
        "passed": ZERO,
        "lost": ZERO,
        "changed": ZERO,
        "to_come": worth_of_mix(mix, habit),
        "is_over": False,
    }


def shares_behind(moment, place, step):
    """The list of what is to come behind a step at the front, outcome by outcome, times the outcomes' weights."""
    return [multiply(multiply(moment["weight"], weight), worth_of_mix(mix, moment["habit"]))
            for weight, mix in behind(moment["mix"], place, step)]


def paid_by(moment, step):
    return multiply(moment["weight"], step[1])


def loss_of(moment, step, shares):
    """What is given up by doing a step that has these shares behind it."""
    return subtract(moment["to_come"], add_all([paid_by(moment, step)] + shares))


def losses_of(moment):
    """The list of the tuples (place, loss) of the steps at the front, and by "free" of None, for leaving."""
    found = [(place, loss_of(moment, step, shares_behind(moment, place, step)))
             for place, step in front_steps(moment["mix"])]
    if moment["habit"] == FREE:
        found.append((None, moment["to_come"]))
    return found


def require_outcome(value, step):
    """Raises BadOutcome for any value that is no number of an outcome, for a step without outcomes any but None."""
    if value is None and not step[2]:
        return
    if not is_number_below(value, len(step[2])):
        raise BadOutcome(value)


def after_step(moment, place, outcome):
    """The moment behind any values as the place of a step at the front and its outcome."""
    step = step_at_front(moment["mix"], place)
    require_outcome(outcome, step)
    shares = shares_behind(moment, place, step)
    found = {
        **moment,
        "paid": add(moment["paid"], paid_by(moment, step)),
        "lost": add(moment["lost"], loss_of(moment, step, shares)),
    }
    if outcome is None:
        return {
            **found,
            "mix": replaced_in_mix(moment["mix"], place, END),
            "weight": ZERO,
            "to_come": ZERO,
            "is_over": True,
        }
    weight, inner = step[2][outcome]
    return {
        **found,
        "mix": replaced_in_mix(moment["mix"], place, inner),
        "weight": multiply(moment["weight"], weight),
        "passed": add_all([moment["passed"]] + shares[:outcome] + shares[outcome + 1:]),
        "to_come": shares[outcome],
    }


def after_change(moment, mix, habit):
    """The moment behind a change to another mix or habit; raises NoFrame if they do not fit."""
    require_frame(with_leaving(pairs_for_frame(mix), habit))
    to_come = multiply(moment["weight"], worth_of_mix(mix, habit))
    changed = add(moment["changed"], subtract(to_come, moment["to_come"]))
    return {**moment, "mix": mix, "habit": habit, "changed": changed, "to_come": to_come}


def after_habit(moment, habit):
    """The moment behind the change to any value as a habit."""
    require_habit(habit)
    return after_change(moment, moment["mix"], habit)


def require_term_number(moment, value):
    """Raises BadNumber for any value that is no number of a term of the mix."""
    if not is_number_below(value, len(moment["mix"])):
        raise BadNumber(value)


def with_term(moment, number, term):
    """The moment with a term in place of another one, or behind all of them."""
    mix = moment["mix"][:number] + (term,) + moment["mix"][number + 1:]
    require_mix(mix)
    return after_change(moment, mix, moment["habit"])


def number_of_free_term(mix):
    """The number of the first term within which there is no step, or how many terms there are."""
    for number, term in enumerate(mix):
        if not all_steps(term):
            return number
    return len(mix)


def after_coming(moment, term):
    """The moment behind the coming of any value as a term."""
    require_term(term)
    return with_term(moment, number_of_free_term(moment["mix"]), term)


def after_going(moment, number):
    """The moment behind the going of the term of any value as its number."""
    require_term_number(moment, number)
    return with_term(moment, number, END)


def after_putting(moment, number, term):
    """The moment behind the putting of any value as a term in the place of that of any value as its number."""
    require_term_number(moment, number)
    require_term(term)
    return with_term(moment, number, term)


def after_leaving(moment):
    """The moment behind leaving; raises BadHabit by "done"."""
    if moment["habit"] == DONE:
        raise BadHabit(moment["habit"])
    return {**moment, "lost": add(moment["lost"], moment["to_come"]), "to_come": ZERO, "is_over": True}


def require_room(count):
    """Raises TooMany if so many deeds stand that no further one may."""
    if count >= MOST_DEEDS:
        raise TooMany(MOST_DEEDS)


def run_of_rule(moment, count, choices):
    """The list of the tuples (deed, moment behind it) of the steps that the rule does, where so many deeds stand."""
    found = []
    taken = 0
    while not moment["is_over"]:
        ahead = step_by_rule(moment["mix"], moment["habit"])
        if ahead is None:
            break
        place, step = ahead
        outcome = None
        if step[2]:
            if taken == len(choices):
                break
            outcome = choices[taken]
            taken += 1
        moment = after_step(moment, place, outcome)
        require_room(count + len(found))
        found.append((("do", place, outcome), moment))
    return found
