import random
from fractions import Fraction
from itertools import permutations

from onenumber.errors import BadForest, BadOrder, NoFrame
from onenumber.forests import (
    best_order,
    best_worth,
    forest_term,
    is_forest,
    is_order,
    is_right_cut,
    order_worth,
    right_cut,
)
from onenumber.frames import is_ring
from onenumber.numbers import ladder_of
from onenumber.terms import is_term, pairs_of
from onenumber.worths import worth
from tests.values import (
    END,
    HALF,
    NOTHING,
    ODD,
    ONE,
    ZERO,
    Case,
    as_amount,
    as_fraction,
    near,
    outcome_of,
    random_fraction,
    random_weight,
)

TWO = (2, 1)
FOREST = ((None, (-1, 1), HALF), (0, (4, 1), HALF), (None, ONE, HALF))
# Two tasks whose pairs have no frame together.
UNFRAMED = ((None, (1, 1), HALF), (None, (-2, 1), TWO))
TOSSES = ((None, ZERO, ONE), (0, ZERO, ONE), (None, ZERO, ONE))
MANY = tuple([(None, (number, 1), HALF) for number in range(8)])


def random_forest(source, most=6, zeros=True):
    """Random tasks: factors above 1, tosses and factors 0 among them, too."""
    tasks = []
    for number in range(source.randint(1, most)):
        parent = source.choice([None] + list(range(number)))
        pay, factor = random_fraction(source, 4), random_weight(source, 3)
        kind = source.randint(0, 9)
        if kind == 0 and zeros:
            factor = ZERO
        elif kind == 1:
            pay, factor = ZERO, ONE
        elif kind < 6:
            factor = as_amount(Fraction(1, source.randint(2, 4)))
        tasks.append((parent, pay, factor))
    return tuple(tasks)


def all_orders(forest):
    """All orders of a forest, by trying all sequences."""
    for order in permutations(range(len(forest))):
        if all([task[0] is None or order.index(task[0]) < order.index(number) for number, task in enumerate(forest)]):
            yield list(order)


def worth_by_sum(forest, order):
    """As the document tells it: each pay times the factors of all tasks ahead."""
    total = Fraction(0)
    for position, number in enumerate(order):
        share = as_fraction(forest[number][1])
        for ahead in order[:position]:
            share *= as_fraction(forest[ahead][2])
        total += share
    return total


def product(factors):
    result = Fraction(1)
    for factor in factors:
        result *= as_fraction(factor)
    return result


def rungs_by_definition(forest, cut):
    """The rungs of a cut: those that are nothing left out, then neighbours that are level added."""
    rungs = []
    for position, tasks in enumerate(cut):
        ahead = product([forest[number][2] for other in cut[:position] for number in other])
        pay = worth_by_sum(forest, tasks)
        fall = 1 - product([forest[number][2] for number in tasks])
        rungs.append((pay * ahead, fall * ahead))
    found = []
    for pay, fall in rungs:
        if (pay, fall) == (0, 0):
            continue
        if found and found[-1][0] * fall == pay * found[-1][1]:
            found[-1] = (found[-1][0] + pay, found[-1][1] + fall)
        else:
            found.append((pay, fall))
    return tuple([(as_amount(pay), as_amount(fall)) for pay, fall in found])


def all_cuts(forest):
    """All orders, cut in all ways."""
    for order in all_orders(forest):
        for marks in range(2 ** (len(order) - 1)):
            cut = [[order[0]]]
            for position in range(1, len(order)):
                if marks >> (position - 1) & 1:
                    cut.append([])
                cut[-1].append(order[position])
            yield cut


def random_framed_forest(source, most=6):
    while True:
        forest = random_forest(source, most)
        if outcome_of(ladder_of, forest_term(forest))[0] == "returned":
            return forest


class Forests(Case):
    def test_what_is_one(self):
        right = [FOREST, UNFRAMED, TOSSES, MANY, ((None, (-5, 3), ZERO),), ((None, ZERO, (7, 2)), (0, ZERO, ONE), (1, ZERO, ONE))]
        wrong = [(), MANY + ((None, ONE, ONE),), [FOREST[0]], FOREST[0], ((0, ONE, ONE),), ((None, ONE, ONE), (1, ONE, ONE)),
                 ((None, ONE, ONE), (2, ONE, ONE)), ((None, ONE, ONE), (-1, ONE, ONE)), ((None, ONE, (-1, 2)),),
                 ((None, ONE, ONE), (False, ONE, ONE)), ((None, ONE, ONE), (None, ONE, ONE), (True, ONE, ONE)),
                 ((None, (2, 2), ONE),), ((None, ONE, (2, 4)),), ((None, ONE, ONE, ONE),), ((None, ONE),), (None, ONE, ONE),
                 ((None, (True, 1), ONE),), ((None, ONE, (1, True)),), ([None, ONE, ONE],), ((None, 1, ONE),), ((None, ONE, 0),)]
        self.judges(is_forest, right, wrong + ODD)

    def test_values_near_to_one(self):
        for value in near(FOREST):
            right = isinstance(value, tuple) and 0 < len(value) <= 8
            for number, task in enumerate(value if right else ()):
                right = right and isinstance(task, tuple) and len(task) == 3
                right = right and (task[0] is None or isinstance(task[0], int) and not isinstance(task[0], bool)
                                   and 0 <= task[0] < number)
                for amount in task[1:] if right else ():
                    right = right and isinstance(amount, tuple) and len(amount) == 2
                    right = right and all([isinstance(part, int) and not isinstance(part, bool) for part in amount])
                    right = right and amount[1] > 0 and as_amount(as_fraction(amount)) == amount
                right = right and task[2][0] >= 0
            self.assertIs(is_forest(value), bool(right), value)

    def test_terms(self):
        def step(number, inner=END):
            return ("step", (number, 1), ((HALF, inner),))

        self.assertEqual(forest_term(MANY[:1]), step(0))
        self.assertEqual(forest_term(MANY[:2]), ("all", (step(0), step(1))))
        self.assertEqual(forest_term(MANY[:3]), ("all", (step(0), step(1), step(2))))
        self.assertEqual(forest_term(MANY[:4]), ("all", (step(0), step(1), ("all", (step(2), step(3))))))
        self.assertEqual(forest_term(MANY[:5]), ("all", (step(0), step(1), ("all", (step(2), step(3), step(4))))))
        last = ("all", (step(4), step(5), ("all", (step(6), step(7)))))
        self.assertEqual(forest_term(MANY), ("all", (step(0), step(1), ("all", (step(2), step(3), last)))))
        # The inner ones likewise: five children of one task.
        hung = MANY[:1] + tuple([(0, pay, factor) for _, pay, factor in MANY[1:6]])
        self.assertEqual(forest_term(hung), step(0, ("all", (step(1), step(2), ("all", (step(3), step(4), step(5)))))))
        self.assertEqual(forest_term(((None, (0, 1), HALF), (0, (1, 1), HALF), (None, (2, 1), HALF), (0, (3, 1), HALF))),
                         ("all", (step(0, ("all", (step(1), step(3)))), step(2))))

    def test_what_hangs_beneath_a_factor_0_stands_in_no_term(self):
        forest = ((None, ONE, HALF), (0, TWO, ZERO), (1, (9, 1), HALF), (2, (9, 1), HALF), (0, (3, 1), ONE))
        self.assertEqual(forest_term(forest), ("step", ONE, ((HALF, ("all", (
            ("step", TWO, ()), ("step", (3, 1), ((ONE, END),))))),)))
        self.assertEqual(forest_term(((None, ONE, ZERO), (0, ONE, ONE))), ("step", ONE, ()))
        self.assertIs(is_order(forest, [0, 1, 2, 3, 4]), True)
        self.assertIs(is_order(forest, [0, 1, 4]), False)
        self.assertEqual(best_order(((None, ONE, ZERO), (0, ONE, ONE))), [0, 1])

    def test_terms_are_terms(self):
        source = random.Random(211)
        for _ in range(100):
            forest = random_forest(source, 8)
            self.assertTrue(is_term(forest_term(forest)))


class Orders(Case):
    def test_what_is_one(self):
        right = [[0, 1, 2], [0, 2, 1], [2, 0, 1]]
        wrong = [[1, 0, 2], [0, 1], [0, 1, 2, 2], [0, 0, 1], (0, 1, 2), [0, True, 2], [False, 1, 2], [0, 1, 3], [0, 1, -1],
                 [2, 1, 0], {0: 0, 1: 1, 2: 2}, [[0, 1, 2]], [0, 1, "2"], [0, 1, None], list(range(50000))]
        self.judges(is_order, right, wrong + ODD, ahead=(FOREST,))
        for value in near([2, 0, 1]):
            self.assertIs(is_order(FOREST, value), value in right and not any([isinstance(part, bool) for part in value]))

    def test_random_ones(self):
        source = random.Random(212)
        for _ in range(60):
            forest = random_forest(source, 5)
            orders = list(all_orders(forest))
            for order in permutations(range(len(forest))):
                self.assertIs(is_order(forest, list(order)), list(order) in orders)

    def test_worths(self):
        source = random.Random(213)
        for _ in range(60):
            forest = random_forest(source, 5)
            for order in all_orders(forest):
                self.assertEqual(order_worth(forest, order), as_amount(worth_by_sum(forest, order)))
        self.assertEqual(order_worth(((None, ONE, ZERO), (None, (5, 1), TWO)), [0, 1]), ONE)
        self.assertEqual(order_worth(((None, ONE, ZERO), (None, (5, 1), TWO)), [1, 0]), (7, 1))

    def test_the_greatest_worth_is_that_of_some_order_and_above_none(self):
        source = random.Random(214)
        unframed = 0
        for _ in range(150):
            forest = random_forest(source, 6)
            best = max([worth_by_sum(forest, order) for order in all_orders(forest)])
            self.assertEqual(best_worth(forest), as_amount(best), forest)
            order = best_order(forest)
            self.assertIs(is_order(forest, order), True)
            self.assertEqual(order_worth(forest, order), as_amount(best))
            unframed += outcome_of(ladder_of, forest_term(forest))[0] == "raised"
        self.assertGreater(unframed, 10)
        self.assertEqual(best_worth(UNFRAMED), as_amount(max(Fraction(1) - 1, Fraction(-2) + 2)))

    def test_the_fact_the_greatest_worth_is_that_of_the_term(self):
        source = random.Random(215)
        for _ in range(150):
            forest = random_framed_forest(source)
            best = max([worth_by_sum(forest, order) for order in all_orders(forest)])
            self.assertEqual(worth((forest_term(forest),), "done"), as_amount(best), forest)

    def test_forests_of_eight_tasks(self):
        source = random.Random(216)
        for _ in range(20):
            forest = random_forest(source, 8)
            while len(forest) < 8:
                forest = random_forest(source, 8)
            self.assertEqual(order_worth(forest, best_order(forest)), best_worth(forest))
        self.assertEqual(best_order(MANY), [7, 6, 5, 4, 3, 2, 1, 0])


class Cuts(Case):
    def test_right_cuts(self):
        source = random.Random(217)
        zeros = 0
        for _ in range(400):
            forest = random_framed_forest(source, 8)
            cut = right_cut(forest)
            ladder = ladder_of(forest_term(forest))
            self.assertEqual(rungs_by_definition(forest, cut), ladder, (forest, cut))
            self.assertTrue(is_order(forest, [number for tasks in cut for number in tasks]))
            self.assertNotIn([], cut)
            self.assertIs(is_right_cut(forest, cut), True)
            zeros += ZERO in [task[2] for task in forest]
        self.assertGreater(zeros, 30)

    def test_all_cuts_of_small_forests(self):
        source = random.Random(218)
        found = {True: 0, False: 0}
        for _ in range(60):
            forest = random_framed_forest(source, 4)
            ladder = ladder_of(forest_term(forest))
            for cut in all_cuts(forest):
                right = rungs_by_definition(forest, cut) == ladder
                self.assertIs(is_right_cut(forest, cut), right, (forest, cut))
                found[right] += 1
        self.assertGreater(min(found.values()), 50)

    def test_the_lists_of_a_right_cut_are_an_order_of_the_greatest_worth(self):
        source = random.Random(219)
        for _ in range(150):
            forest = random_framed_forest(source, 8)
            order = [number for tasks in right_cut(forest) for number in tasks]
            self.assertEqual(order_worth(forest, order), best_worth(forest))

    def test_small_ones(self):
        self.assertEqual(ladder_of(forest_term(FOREST)), ((ONE, HALF), (HALF, (3, 8))))
        self.assertEqual(right_cut(FOREST), [[2], [0, 1]])
        for value, right in (([[2], [0, 1]], True), ([[2], [0], [1]], False), ([[2, 0, 1]], False), ([[0, 1], [2]], False),
                             ([[2], [], [0, 1]], False), ([[2], [0, 1], []], False), ([(2,), (0, 1)], False),
                             (([2], [0, 1]), False), ([[2], [0]], False), ([2, [0, 1]], False), ([[2], [False, True]], False),
                             ([[2], [0, 1, 1]], False), ([], False), ([[]], False)):
            self.assertIs(is_right_cut(FOREST, value), right, value)

    def test_nothing_is_left_out_first_and_then_neighbours_that_are_level_are_added(self):
        # A toss between two level ones: they are neighbours as soon as it is left out.
        forest = ((None, ONE, HALF), (None, ZERO, ONE), (None, ONE, HALF))
        self.assertEqual(ladder_of(forest_term(forest)), (((3, 2), (3, 4)),))
        for value in ([[0], [1], [2]], [[2], [1], [0]], [[0, 1, 2]], [[1], [0, 2]], [[2, 1], [0]]):
            self.assertIs(is_right_cut(forest, value), True)
        self.assertIs(is_right_cut(TOSSES, [[0], [1], [2]]), True)
        self.assertIs(is_right_cut(TOSSES, [[2, 0, 1]]), True)
        self.assertIs(is_right_cut(TOSSES, [[1], [0], [2]]), False)
        self.assertIs(is_right_cut(TOSSES, []), False)
        self.assertIs(is_right_cut(TOSSES, right_cut(TOSSES)), True)

    def test_tasks_beneath_a_factor_0_stand_in_the_cut(self):
        forest = ((None, ONE, ZERO), (0, (9, 1), HALF), (None, TWO, HALF))
        self.assertEqual(ladder_of(forest_term(forest)), (((2, 1), HALF), (HALF, HALF)))
        for value, right in (([[2], [0], [1]], True), ([[2], [0, 1]], True), ([[2], [0]], False), ([[0], [2], [1]], False),
                             ([[2], [1], [0]], False)):
            self.assertIs(is_right_cut(forest, value), right)
        self.assertIs(is_right_cut(forest, right_cut(forest)), True)

    def test_without_a_frame(self):
        forests = [UNFRAMED, ((None, ZERO, ONE),) + UNFRAMED,
                   ((None, ONE, HALF), (0, ZERO, ONE), (1, (-2, 1), TWO), (None, (5, 1), ZERO), (3, (-9, 1), TWO))]
        for forest in forests:
            pairs = [pair for pair in pairs_of(forest_term(forest)) if pair != NOTHING]
            self.assertTrue(is_ring(pairs, self.told(NoFrame, right_cut, forest)))
            for value in ODD + [[[0], [1]]]:
                self.assertTrue(is_ring(pairs, self.told(NoFrame, is_right_cut, forest, value)))
        # What hangs beneath a factor 0 is in no term, so it needs no frame.
        forest = ((None, ONE, HALF), (None, ZERO, ZERO), (1, (-2, 1), TWO))
        self.assertEqual(right_cut(forest), [[0], [1], [2]])

    def test_any_values(self):
        right = right_cut(FOREST)
        for value in ODD + near(right):
            told = is_right_cut(FOREST, value)
            if not isinstance(value, list) or not all([isinstance(entry, list) and entry for entry in value]):
                self.assertIs(told, False)
            elif told:
                self.assertEqual([number for tasks in value for number in tasks], [2, 0, 1])

    def test_each_call_gives_new_lists(self):
        first, second = right_cut(FOREST), right_cut(FOREST)
        self.assertEqual(first, second)
        self.assertIsNot(first[0], second[0])
        first[0].append(7)
        self.assertEqual(right_cut(FOREST), second)


class Errors(Case):
    def test_values_that_are_no_forests(self):
        wrong = [value for value in ODD + near(FOREST) if not is_forest(value)]
        for function in (forest_term, best_worth, best_order, right_cut):
            self.refuses(BadForest, function, wrong)
        for function in (is_order, order_worth, is_right_cut):
            self.refuses(BadForest, function, wrong, behind=([0, 5, 1],))

    def test_values_that_are_no_orders(self):
        wrong = [value for value in ODD + near([2, 0, 1]) if not is_order(FOREST, value)]
        self.refuses(BadOrder, order_worth, wrong + [(0, 1, 2), [1, 0, 2]], ahead=(FOREST,))
        # Without a frame there are orders and worths all the same.
        self.assertEqual(order_worth(UNFRAMED, [1, 0]), ZERO)
