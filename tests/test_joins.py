import random
from fractions import Fraction
from itertools import permutations

from onenumber.errors import BadJoin, BadRow, BadTable
from onenumber.forests import best_worth, forest_term, is_forest, order_worth
from onenumber.joins import hung, is_join, is_row, join_term, least_cost, least_from, least_row, row_cost
from onenumber.numbers import ladder_of
from onenumber.worths import worth
from tests.values import END, HALF, ODD, ONE, Case, as_amount, as_fraction, near, outcome_of, random_weight

JOIN = (((10, 1), (20, 1), (5, 1)), ((0, 1, (1, 10)), (1, 2, (1, 5))))
# Table 3 in the middle, and a tail 0 - 5 - 1.
TREE = (((2, 1), (3, 1), (5, 1), (7, 1), (11, 1), (13, 1), (1, 2)),
        ((0, 3, HALF), (0, 5, (1, 3)), (1, 5, (2, 1)), (2, 3, ONE), (3, 4, (1, 7)), (4, 6, (3, 2))))


def random_join(source, most=6):
    """A random tree of tables, with numbers that are mixed up."""
    count = source.randint(2, most)
    numbers = source.sample(range(count), count)
    ties = []
    for number in range(1, count):
        one, other = sorted([numbers[number], numbers[source.randint(0, number - 1)]])
        ties.append((one, other, random_weight(source, 5)))
    return (tuple([random_weight(source, 9) for _ in range(count)]), tuple(sorted(ties, key=lambda tie: tie[:2])))


def all_rows(join):
    """All rows, by trying all sequences."""
    sizes, ties = join
    for row in permutations(range(len(sizes))):
        if all([any([{table, other} == {tie[0], tie[1]} for other in row[:position] for tie in ties])
                for position, table in enumerate(row) if position]):
            yield list(row)


def size_together(join, tables):
    """The product of the sizes, and of the shares of the ties among them."""
    result = Fraction(1)
    for table in tables:
        result *= as_fraction(join[0][table])
    for one, other, share in join[1]:
        if one in tables and other in tables:
            result *= as_fraction(share)
    return result


def cost_by_sum(join, row):
    return sum([size_together(join, row[:count]) for count in range(2, len(row) + 1)])


class Joins(Case):
    def test_what_is_one(self):
        right = [JOIN, TREE, (((1, 2), (1, 3)), ((0, 1, (5, 2)),)), ((ONE, ONE, ONE), ((0, 2, ONE), (1, 2, ONE)))]
        sizes, ties = JOIN
        wrong = [
            ((ONE,), ()), ((ONE,) * 8, tuple([(number, number + 1, ONE) for number in range(7)])),
            (sizes, ties[:1]), (sizes, ties + ((0, 2, ONE),)), (sizes, ((0, 1, ONE), (0, 2, ONE), (1, 2, ONE))), (sizes, ties[::-1]), (sizes, ((1, 0, ONE), (1, 2, ONE))),
            (sizes, ((0, 1, ONE), (0, 1, ONE))), (sizes, ((0, 1, ONE), (0, 1, (2, 1)))), (sizes, ((0, 0, ONE), (1, 2, ONE))),
            (sizes, ((0, 1, ONE), (1, 3, ONE))), (sizes, ((-1, 1, ONE), (1, 2, ONE))), (sizes, ((0, 1, (0, 1)), (1, 2, ONE))),
            (sizes, ((0, 1, (-1, 2)), (1, 2, ONE))), (((0, 1), ONE, ONE), ties), (((-1, 1), ONE, ONE), ties),
            (sizes, ((False, 1, ONE), (1, 2, ONE))), (sizes, ((0, True, ONE), (1, 2, ONE))), (sizes, list(ties)),
            (list(sizes), ties), [sizes, ties], (sizes, ties, ()), (sizes,), (sizes, ((0, 1), (1, 2))),
            (sizes, ([0, 1, ONE], (1, 2, ONE))), (sizes, ((0, 1, 1), (1, 2, ONE))), (ties, sizes),
            # As many ties as there should be, but not all tables hang together.
            ((ONE,) * 4, ((0, 1, ONE), (0, 2, ONE), (1, 2, ONE))),
            ((ONE,) * 5, ((0, 1, ONE), (0, 2, ONE), (1, 3, ONE), (2, 3, ONE))),
            ((ONE,) * 6, ((1, 2, ONE), (1, 3, ONE), (2, 3, ONE), (3, 4, ONE), (4, 5, ONE))),
        ]
        self.judges(is_join, right, wrong + ODD)
        for value in near(JOIN):
            told = is_join(value)
            self.assertIsInstance(told, bool)
            if told:
                self.assertEqual([len(value[0]), len(value[1])], [3, 2], value)
                self.assertEqual([tie[:2] for tie in value[1]] in ([(0, 1), (1, 2)], [(0, 2), (1, 2)], [(0, 1), (0, 2)]), True)

    def test_rows(self):
        right = [[0, 1, 2], [1, 0, 2], [1, 2, 0], [2, 1, 0]]
        wrong = [[0, 2, 1], [2, 0, 1], [0, 1], [0, 1, 2, 2], [0, 1, 1], (0, 1, 2), [0, True, 2], [False, 1, 2], [0, 1, 3],
                 [0, 1, -1], {0: 0, 1: 1, 2: 2}, [0, 1, None], list(range(50000))]
        self.judges(is_row, right, wrong + ODD, ahead=(JOIN,))
        source = random.Random(221)
        for _ in range(40):
            join = random_join(source, 5)
            rows = list(all_rows(join))
            for row in permutations(range(len(join[0]))):
                self.assertIs(is_row(join, list(row)), list(row) in rows)

    def test_costs(self):
        source = random.Random(222)
        for _ in range(40):
            join = random_join(source, 5)
            for row in all_rows(join):
                self.assertEqual(row_cost(join, row), as_amount(cost_by_sum(join, row)), (join, row))
        # The size of the first table alone does not count.
        self.assertEqual(row_cost((((9, 1), (5, 1)), ((0, 1, ONE),)), [0, 1]), (45, 1))

    def test_least_ones(self):
        source = random.Random(223)
        for _ in range(60):
            join = random_join(source, 6)
            costs = [cost_by_sum(join, row) for row in all_rows(join)]
            self.assertEqual(least_cost(join), as_amount(min(costs)), join)
            row = least_row(join)
            self.assertIs(is_row(join, row), True)
            self.assertEqual(row_cost(join, row), as_amount(min(costs)))

    def test_the_least_among_those_that_begin_with_a_table(self):
        source = random.Random(224)
        for _ in range(40):
            join = random_join(source, 6)
            for first in range(len(join[0])):
                told = least_from(join, first)
                self.assertIsInstance(told, tuple)
                cost, row = told
                self.assertEqual(cost, as_amount(min([cost_by_sum(join, row) for row in all_rows(join) if row[0] == first])))
                self.assertEqual(row[0], first)
                self.assertIs(is_row(join, row), True)
                self.assertEqual(row_cost(join, row), cost)

    def test_seven_tables(self):
        self.assertEqual(least_cost(TREE), as_amount(min([cost_by_sum(TREE, row) for row in all_rows(TREE)])))
        self.assertEqual(row_cost(TREE, least_row(TREE)), least_cost(TREE))

    def test_the_fact_of_the_term(self):
        source = random.Random(225)
        for _ in range(60):
            join = random_join(source, 6)
            for first in range(len(join[0])):
                # The pairs always have a frame.
                self.assertEqual(outcome_of(ladder_of, join_term(join, first))[0], "returned")
                told = -as_fraction(join[0][first]) * as_fraction(worth((join_term(join, first),), "done"))
                least = min([cost_by_sum(join, row) for row in all_rows(join) if row[0] == first])
                self.assertEqual(told, least)


class Hung(Case):
    def test_small_ones(self):
        self.assertEqual(hung(JOIN, 1), (((None, (-1, 1), ONE), (None, (-1, 1), ONE)), [0, 2]))
        self.assertEqual(hung(JOIN, 2), (((None, (-4, 1), (4, 1)), (0, (-1, 1), ONE)), [1, 0]))
        self.assertEqual(join_term(JOIN, 2), ("step", (-4, 1), (((4, 1), ("step", (-1, 1), ((ONE, END),))),)))

    def test_tables_by_how_far_they_are_then_by_number(self):
        self.assertEqual(hung(TREE, 3)[1], [0, 2, 4, 5, 6, 1])
        self.assertEqual(hung(TREE, 5)[1], [0, 1, 3, 2, 4, 6])
        self.assertEqual(hung(TREE, 6)[1], [4, 3, 0, 2, 5, 1])
        self.assertEqual([task[0] for task in hung(TREE, 3)[0]], [None, None, None, 0, 2, 3])
        # Of one distance they stand by number, not by what they hang on.
        crossed = ((ONE,) * 5, ((0, 1, ONE), (0, 2, ONE), (1, 4, ONE), (2, 3, ONE)))
        self.assertEqual(hung(crossed, 0)[1], [1, 2, 3, 4])
        self.assertEqual([task[0] for task in hung(crossed, 0)[0]], [None, None, 1, 0])
        self.assertEqual([task[0] for task in hung(TREE, 6)[0]], [None, 0, 1, 1, 2, 4])

    def test_tasks(self):
        source = random.Random(226)
        for _ in range(60):
            join = random_join(source, 7)
            for first in range(len(join[0])):
                forest, tables = hung(join, first)
                self.assertIsInstance(tables, list)
                self.assertTrue(is_forest(forest))
                self.assertEqual(sorted(tables + [first]), list(range(len(join[0]))))
                self.assertEqual(join_term(join, first), forest_term(forest))
                for (parent, pay, factor), table in zip(forest, tables):
                    above = first if parent is None else tables[parent]
                    share = [tie[2] for tie in join[1] if {tie[0], tie[1]} == {table, above}]
                    self.assertEqual(len(share), 1)
                    self.assertEqual(as_fraction(factor), as_fraction(share[0]) * as_fraction(join[0][table]))
                    self.assertEqual(as_fraction(pay), -as_fraction(factor))

    def test_costs_of_rows_are_worths_of_orders(self):
        for row in all_rows(TREE):
            forest, tables = hung(TREE, row[0])
            order = [tables.index(table) for table in row[1:]]
            told = -as_fraction(TREE[0][row[0]]) * as_fraction(order_worth(forest, order))
            self.assertEqual(told, cost_by_sum(TREE, row))
        self.assertEqual(as_fraction(best_worth(hung(TREE, 0)[0])) * -2, as_fraction(least_from(TREE, 0)[0]))


class Errors(Case):
    def test_values_that_are_no_joins(self):
        wrong = [value for value in ODD + near(JOIN) if not is_join(value)]
        for function in (least_cost, least_row):
            self.refuses(BadJoin, function, wrong)
        for function in (is_row, row_cost, hung, join_term, least_from):
            self.refuses(BadJoin, function, wrong, behind=(99,))

    def test_values_that_are_no_rows(self):
        wrong = [value for value in ODD + near([2, 1, 0]) if not is_row(JOIN, value)]
        self.refuses(BadRow, row_cost, wrong + [(0, 1, 2), [0, 2, 1]], ahead=(JOIN,))

    def test_values_that_are_no_tables(self):
        wrong = [value for value in ODD if isinstance(value, bool) or value not in (0, 1, 2)]
        for function in (hung, join_term, least_from):
            self.refuses(BadTable, function, wrong + [3, -1, "0", [0], (0,)], ahead=(JOIN,))
