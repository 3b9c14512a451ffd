"""Joins: tables that hang together by ties, the rows in which they are put together, and forests hung from a table.

The functions below the checks trust that they are handed joins; those of the interface look first.
"""

from onenumber.amounts import ZERO, add, is_above_zero, is_below, is_number_below, multiply, negative
from onenumber.errors import BadJoin, BadRow, BadTable
from onenumber.forests import best_run, term_of_forest

FEWEST_TABLES = 2
MOST_TABLES = 7


def are_sizes(value):
    """Whether any value is a tuple of 2 to 7 fractions above 0."""
    if not isinstance(value, tuple) or not FEWEST_TABLES <= len(value) <= MOST_TABLES:
        return False
    return all(is_above_zero(entry) for entry in value)


def is_tie(value, count):
    """Whether any value is a tie between two of so many tables."""
    if not isinstance(value, tuple) or len(value) != 3:
        return False
    one, other, share = value
    return is_number_below(other, count) and is_number_below(one, other) and is_above_zero(share)


def are_ties(value, count):
    """Whether any value is an ascending tuple of one tie fewer than so many tables."""
    if not isinstance(value, tuple) or len(value) != count - 1 or not all(is_tie(entry, count) for entry in value):
        return False
    return all(tie[:2] < after[:2] for tie, after in zip(value, value[1:]))


def tied_to(ties, table):
    """The list of the tuples (table, share) of the tables that are tied to one."""
    found = []
    for one, other, share in ties:
        if one == table:
            found.append((other, share))
        elif other == table:
            found.append((one, share))
    return found


def hanging(ties, first):
    """The tables that hang together with a first one, as a dict, by how many ties they are away, then by numbers.

    For each it tells the next table on the way to the first one, and the share of the tie to it.
    """
    found = {first: (None, None)}
    level = [first]
    while level:
        near = {}
        for table in level:
            for other, share in tied_to(ties, table):
                if other not in found:
                    near[other] = (table, share)
        level = sorted(near)
        for other in level:
            found[other] = near[other]
    return found


def is_join(value):
    """Whether any value is a join."""
    if not isinstance(value, tuple) or len(value) != 2:
        return False
    sizes, ties = value
    return are_sizes(sizes) and are_ties(ties, len(sizes)) and len(hanging(ties, 0)) == len(sizes)


def require_join(value):
    if not is_join(value):
        raise BadJoin(value)


def require_table(join, value):
    """Raises BadTable for any value that is no number of a table."""
    if not is_number_below(value, len(join[0])):
        raise BadTable(value)


def growth(join, earlier, table):
    """By how much the size of some tables put together is multiplied as another one comes."""
    size = join[0][table]
    for other, share in tied_to(join[1], table):
        if other in earlier:
            size = multiply(size, share)
    return size


def cost_of_row(join, row):
    size = join[0][row[0]]
    cost = ZERO
    for position, table in enumerate(row[1:], start=1):
        size = multiply(size, growth(join, row[:position], table))
        cost = add(cost, size)
    return cost


def hung_from(join, first):
    """What hung tells."""
    found = hanging(join[1], first)
    tables = list(found)[1:]
    tasks = []
    for table in tables:
        parent, share = found[table]
        factor = multiply(join[0][table], share)
        tasks.append((None if parent == first else tables.index(parent), negative(factor), factor))
    return (tuple(tasks), tables)


def best_from(join, first):
    """The least cost of the rows that begin with a table, and any such row."""
    forest, tables = hung_from(join, first)
    worth, order = best_run(forest)
    return (negative(multiply(join[0][first], worth)), [first] + [tables[number] for number in order])


def best_of_all(join):
    """The least cost of the rows, and any row of it."""
    best = best_from(join, 0)
    for first in range(1, len(join[0])):
        found = best_from(join, first)
        if is_below(found[0], best[0]):
            best = found
    return best


def is_row(join, value):
    """Whether any value is a row of a join."""
    require_join(join)
    if not isinstance(value, list) or len(value) != len(join[0]):
        return False
    told = []
    for table in value:
        if not is_number_below(table, len(join[0])) or table in told:
            return False
        if told and not any(other in told for other, _ in tied_to(join[1], table)):
            return False
        told.append(table)
    return True


def row_cost(join, row):
    """The cost of a row of a join."""
    if not is_row(join, row):
        raise BadRow(row)
    return cost_of_row(join, row)


def hung(join, first):
    """The tuple (forest, tables) of the tables other than a first one, hung from it: tables lists their numbers."""
    require_join(join)
    require_table(join, first)
    return hung_from(join, first)


def join_term(join, first):
    """The term of the forest of the other tables, hung from a first one."""
    return term_of_forest(hung(join, first)[0])


def least_cost(join):
    """The least cost of a row of a join."""
    require_join(join)
    return best_of_all(join)[0]


def least_row(join):
    """Any row of a join of the least cost."""
    require_join(join)
    return best_of_all(join)[1]


def least_from(join, first):
    """The tuple (cost, row) of any row of the least cost among those that begin with a table."""
    require_join(join)
    require_table(join, first)
    return best_from(join, first)
