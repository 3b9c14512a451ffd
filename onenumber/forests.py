"""Forests: tasks with parents, their orders, and the stretches in which a forest's ladder goes through its tasks.

The functions below the checks trust that they are handed forests; those of the interface look first.
"""

from onenumber.amounts import ONE, ZERO, add, is_fraction, is_from_zero, is_number_below, multiply, subtract
from onenumber.errors import BadForest, BadOrder
from onenumber.frames import by_ahead, require_frame
from onenumber.numbers import ladder_of_term, pairs_for_frame
from onenumber.pairs import NOTHING, add_pairs, multiply_pair, turn_of_pairs
from onenumber.terms import END

MOST_TASKS = 8


def is_task(value, number):
    """Whether any value is the task of this number of a forest."""
    if not isinstance(value, tuple) or len(value) != 3:
        return False
    parent, pay, factor = value
    if parent is not None and not is_number_below(parent, number):
        return False
    return is_fraction(pay) and is_from_zero(factor)


def is_forest(value):
    """Whether any value is a forest."""
    if not isinstance(value, tuple) or not 1 <= len(value) <= MOST_TASKS:
        return False
    return all(is_task(entry, number) for number, entry in enumerate(value))


def require_forest(value):
    if not is_forest(value):
        raise BadForest(value)


def is_sequence(parents, value):
    """Whether any value is a list of all numbers of some things, each once and behind its parent, if it has one."""
    if not isinstance(value, list) or len(value) != len(parents):
        return False
    told = []
    for number in value:
        if not is_number_below(number, len(parents)) or number in told:
            return False
        if parents[number] is not None and parents[number] not in told:
            return False
        told.append(number)
    return True


def parents_of(forest):
    return [parent for parent, _, _ in forest]


def children_of(forest, parent):
    """The ascending list of the numbers of the tasks that have a parent, None for those without one."""
    return [number for number, task in enumerate(forest) if task[0] == parent]


def run_of(forest, tasks):
    """What some tasks pay one behind the other, and the product of their factors."""
    paid, weight = ZERO, ONE
    for number in tasks:
        paid = add(paid, multiply(weight, forest[number][1]))
        weight = multiply(weight, forest[number][2])
    return (paid, weight)


def pair_of_tasks(forest, tasks):
    """The pair of a list of tasks."""
    paid, weight = run_of(forest, tasks)
    return (paid, subtract(ONE, weight))


def are_ahead(forest, tasks, others):
    """Whether the pair of some tasks is ahead of that of others."""
    return turn_of_pairs(pair_of_tasks(forest, tasks), pair_of_tasks(forest, others)) > 0


def put_into_one(terms):
    """One term that has within it all terms of a list."""
    if not terms:
        return END
    if len(terms) == 1:
        return terms[0]
    if len(terms) <= 3:
        return ("all", tuple(terms))
    return ("all", (terms[0], terms[1], put_into_one(terms[2:])))


def term_of_tasks(forest, tasks):
    """The term of some tasks that have one parent, or none."""
    return put_into_one([term_of_task(forest, number) for number in tasks])


def term_of_task(forest, number):
    _, pay, factor = forest[number]
    # Nothing is left of the weight behind such a task, so what hangs beneath it stands in no term.
    if factor == ZERO:
        return ("step", pay, ())
    return ("step", pay, ((factor, term_of_tasks(forest, children_of(forest, number))),))


def term_of_forest(forest):
    return term_of_tasks(forest, children_of(forest, None))


def has_bit(bits, number):
    return bits >> number & 1 == 1


def open_tasks(forest, done):
    """The numbers of the tasks that may come next behind a set of tasks, told by bits."""
    return [number for number, (parent, _, _) in enumerate(forest)
            if not has_bit(done, number) and (parent is None or has_bit(done, parent))]


def best_by_sets(forest):
    """For each set of tasks, told by bits, the most that the others pay behind it, and the first of them, or None."""
    every = (1 << len(forest)) - 1
    found = {every: (ZERO, None)}
    for done in reversed(range(every)):
        best = None
        # The first task of those that are left is open, so there is one.
        for number in open_tasks(forest, done):
            _, pay, factor = forest[number]
            paid = add(pay, multiply(factor, found[done | 1 << number][0]))
            if best is None or subtract(paid, best[0])[0] > 0:
                best = (paid, number)
        found[done] = best
    return found


def best_run(forest):
    """The greatest worth of an order, and any order of it."""
    found = best_by_sets(forest)
    order = []
    done = 0
    while found[done][1] is not None:
        number = found[done][1]
        order.append(number)
        done = done | 1 << number
    return (found[0][0], order)


def merged(forest, groups):
    """The stretches of lists of stretches that stand side by side, by "ahead".

    Those of which nothing comes, behind all of the weight, are left out.
    """
    stretches = [stretch for group in groups for stretch in group]
    found = []
    weight = ONE
    # Level ones stay in their sequence, so a task stays ahead of those beneath it.
    for level in by_ahead([pair_of_tasks(forest, stretch) for stretch in stretches]):
        for number in level:
            if weight != ZERO:
                found.append(stretches[number])
                weight = multiply(weight, run_of(forest, stretches[number])[1])
    return found


def stretches_of_tasks(forest, tasks):
    """The stretches of some tasks that have one parent, or none, and of all beneath them."""
    return merged(forest, [stretches_of_task(forest, number) for number in tasks])


def stretches_of_task(forest, number):
    """The stretches of a task and of all beneath it, foremost first; tasks of which nothing comes are in none."""
    behind = []
    if forest[number][2] != ZERO:
        behind = stretches_of_tasks(forest, children_of(forest, number))
    stretch = [number]
    if pair_of_tasks(forest, stretch) == NOTHING:
        return [stretch + behind[0]] + behind[1:] if behind else []
    taken = 0
    while taken < len(behind) and are_ahead(forest, behind[taken], stretch):
        stretch = stretch + behind[taken]
        taken += 1
    return [stretch] + behind[taken:]


def cut_of(forest):
    """A right cut of a forest that has a frame."""
    cut = stretches_of_tasks(forest, children_of(forest, None))
    told = [number for stretch in cut for number in stretch]
    # Where a task comes to nothing, so do all beneath it, and each stands behind its parent by its number.
    rest = [number for number in range(len(forest)) if number not in told]
    return cut + [rest] if rest else cut


def rungs_of_cut(forest, cut):
    """The rungs of a cut that are not nothing, neighbours that are level added."""
    found = []
    weight = ONE
    for tasks in cut:
        rung = multiply_pair(pair_of_tasks(forest, tasks), weight)
        weight = multiply(weight, run_of(forest, tasks)[1])
        if rung == NOTHING:
            continue
        if found and turn_of_pairs(found[-1], rung) == 0:
            found[-1] = add_pairs([found[-1], rung])
        else:
            found.append(rung)
    return tuple(found)


def is_cut(forest, value):
    """Whether any value is a cut of a forest."""
    if not isinstance(value, list) or not all(isinstance(entry, list) and len(entry) > 0 for entry in value):
        return False
    return is_sequence(parents_of(forest), [number for tasks in value for number in tasks])


def framed_term(forest):
    """The term of any value as a forest that has a frame; raises BadForest, then NoFrame."""
    require_forest(forest)
    term = term_of_forest(forest)
    require_frame(pairs_for_frame([term]))
    return term


def forest_term(forest):
    """The term of a forest."""
    require_forest(forest)
    return term_of_forest(forest)


def is_order(forest, value):
    """Whether any value is an order of a forest."""
    require_forest(forest)
    return is_sequence(parents_of(forest), value)


def order_worth(forest, order):
    """The worth of an order of a forest."""
    if not is_order(forest, order):
        raise BadOrder(order)
    return run_of(forest, order)[0]


def best_worth(forest):
    """The greatest worth of an order of a forest."""
    require_forest(forest)
    return best_run(forest)[0]


def best_order(forest):
    """Any order of the greatest worth of a forest."""
    require_forest(forest)
    return best_run(forest)[1]


def right_cut(forest):
    """Any right cut of a forest."""
    framed_term(forest)
    return cut_of(forest)


def is_right_cut(forest, value):
    """Whether any value is a right cut of a forest."""
    ladder = ladder_of_term(framed_term(forest))
    return is_cut(forest, value) and rungs_of_cut(forest, value) == ladder
