import random
from fractions import Fraction
from itertools import permutations, product

from onenumber.conditions import (
    best_tests,
    condition_cost,
    condition_terms,
    cost_left,
    group_cost,
    group_term,
    is_condition,
    is_group,
    is_group_order,
    is_standing,
    least_order,
    open_tests,
)
from onenumber.errors import BadCondition, BadGroup, BadGroupOrder, BadStanding
from onenumber.worths import worth
from tests.values import END, HALF, ODD, ONE, ZERO, Case, as_amount, as_fraction, near, outcome_of

DEAR = ((ONE, HALF, None), ((4, 1), (1, 4), None))
GUARDED = ((ONE, (1, 3), None), (ZERO, HALF, 0), ((2, 1), (3, 4), 1))
BOTH = (DEAR, (((2, 1), HALF, None),))
FOUR = ((ONE, HALF, None), ((2, 1), (1, 3), None), ((1, 2), (3, 4), 1), ((5, 1), (1, 10), None))


def random_group(source, most):
    tests = []
    for number in range(source.randint(1, most)):
        guard = source.choice([None, None] + list(range(number)))
        bottom = source.randint(2, 5)
        tests.append((as_amount(Fraction(source.randint(0, 8), source.randint(1, 3))),
                      as_amount(Fraction(source.randint(1, bottom - 1), bottom)), guard))
    return tuple(tests)


def random_condition(source, most=4, groups=3, tests=8):
    while True:
        condition = tuple([random_group(source, most) for _ in range(source.randint(1, groups))])
        if sum(map(len, condition)) <= tests:
            return condition


def all_orders(group):
    for order in permutations(range(len(group))):
        if all([test[2] is None or order.index(test[2]) < order.index(number) for number, test in enumerate(group)]):
            yield list(order)


def cost_by_sum(group, order):
    total, share = Fraction(0), Fraction(1)
    for number in order:
        total += share * as_fraction(group[number][0])
        share *= as_fraction(group[number][1])
    return total


def known(standing):
    """Whether the condition is: None if not, otherwise its truth."""
    if any([all([answer is True for answer in answers]) for answers in standing]):
        return True
    return False if all([False in answers for answers in standing]) else None


def may_be_asked(condition, standing):
    if known(standing) is not None:
        return []
    return [(place, number) for place, group in enumerate(condition) for number, (_, _, guard) in enumerate(group)
            if standing[place][number] is None and False not in standing[place]
            and (guard is None or standing[place][guard] is True)]


def answered(standing, test, answer):
    rows = [list(answers) for answers in standing]
    rows[test[0]][test[1]] = answer
    return tuple([tuple(row) for row in rows])


def nothing_asked(condition):
    return tuple([(None,) * len(group) for group in condition])


def all_standings(condition):
    """All that can come about, found by asking."""
    found = [nothing_asked(condition)]
    told = set(found)
    for standing in found:
        for test in may_be_asked(condition, standing):
            for answer in (True, False):
                behind = answered(standing, test, answer)
                if behind not in told:
                    told.add(behind)
                    found.append(behind)
    return found


class Reference:
    """Least means over all ways of asking (or over some of them), worked out from all standings."""

    def __init__(self, condition, allowed=None):
        self.condition, self.allowed, self.costs = condition, allowed, {}

    def asking(self, standing, test):
        price, share, _ = self.condition[test[0]][test[1]]
        chance = as_fraction(share)
        return (as_fraction(price) + chance * self.left(answered(standing, test, True))
                + (1 - chance) * self.left(answered(standing, test, False)))

    def left(self, standing):
        if standing not in self.costs:
            tests = may_be_asked(self.condition, standing)
            if self.allowed is not None:
                tests = [test for test in tests if self.allowed(standing, test)]
            self.costs[standing] = min([self.asking(standing, test) for test in tests], default=Fraction(0))
        return self.costs[standing]


class Groups(Case):
    def test_what_is_a_group(self):
        right = [DEAR, GUARDED, FOUR, ((ZERO, (1, 9), None),)]
        wrong = [(), FOUR + ((ONE, HALF, None),), [DEAR[0]], DEAR[0], ((ONE, ZERO, None),), ((ONE, ONE, None),),
                 ((ONE, (3, 2), None),), ((ONE, (-1, 2), None),), (((-1, 1), HALF, None),), ((ONE, HALF, 0),),
                 ((ONE, HALF, None), (ONE, HALF, 1)), ((ONE, HALF, None), (ONE, HALF, -1)), ((ONE, HALF, None), (ONE, HALF, False)),
                 ((ONE, HALF, None),) * 2 + ((ONE, HALF, True),), ((ONE, HALF),), ((ONE, HALF, None, None),),
                 ([ONE, HALF, None],), ((1, HALF, None),), (((True, 1), HALF, None),), ((ONE, (2, 4), None),), ((None, ONE, HALF),)]
        self.judges(is_group, right, wrong + ODD)
        for value in near(GUARDED):
            if is_group(value):
                for number, (price, share, guard) in enumerate(value):
                    self.assertTrue(price[0] >= 0 and 0 < share[0] < share[1] and (guard is None or guard in range(number)))

    def test_orders(self):
        right = [[0, 1, 2, 3], [1, 2, 0, 3], [3, 1, 0, 2]]
        wrong = [[2, 1, 0, 3], [0, 2, 1, 3], [0, 1, 2], [0, 1, 2, 3, 3], [0, 1, 1, 2], (0, 1, 2, 3), [False, 1, 2, 3], [0, True, 2, 3],
                 [0, 1, 2, 4], [0, 1, 2, -1], {0: 0}, [0, 1, 2, None], list(range(50000))]
        self.judges(is_group_order, right, wrong + ODD, ahead=(FOUR,))
        source = random.Random(251)
        for _ in range(60):
            group = random_group(source, 4)
            orders = list(all_orders(group))
            for order in permutations(range(len(group))):
                self.assertIs(is_group_order(group, list(order)), list(order) in orders)
                if list(order) in orders:
                    self.assertEqual(group_cost(group, list(order)), as_amount(cost_by_sum(group, order)))

    def test_least_orders(self):
        source = random.Random(252)
        for _ in range(150):
            group = random_group(source, 4)
            order = least_order(group)
            self.assertIs(is_group_order(group, order), True)
            self.assertEqual(group_cost(group, order), as_amount(min([cost_by_sum(group, one) for one in all_orders(group)])))

    def test_terms(self):
        self.assertEqual(group_term(DEAR[:1], [0]), ("step", (-1, 1), ((HALF, END),)))
        self.assertEqual(group_term(DEAR, [1, 0]), ("step", (-4, 1), (
            ((1, 4), ("step", (-1, 1), ((HALF, END),))), ((3, 4), END))))
        self.assertEqual(group_term(GUARDED, [0, 1, 2]), ("step", (-1, 1), (
            ((1, 3), ("step", ZERO, ((HALF, ("step", (-2, 1), (((1, 4), END),))), (HALF, END)))), ((2, 3), END))))


class Conditions(Case):
    def test_what_is_one(self):
        right = [BOTH, (DEAR,), (FOUR, FOUR), (FOUR, GUARDED, DEAR[:1]), (DEAR, DEAR, DEAR)]
        wrong = [(), (DEAR,) * 4, (FOUR, FOUR, DEAR[:1]), (FOUR, GUARDED, DEAR), DEAR, [DEAR], (DEAR, None), (DEAR, ()),
                 (DEAR, list(GUARDED)), ((DEAR,),)]
        self.judges(is_condition, right, wrong + ODD)
        for value in near(BOTH):
            self.assertIs(is_condition(value), isinstance(value, tuple) and 0 < len(value) < 4 and all(map(is_group, value)))

    def test_costs_over_all_ways_of_asking(self):
        source = random.Random(253)
        for _ in range(60):
            condition = random_condition(source)
            cost = Reference(condition).left(nothing_asked(condition))
            self.assertEqual(condition_cost(condition), as_amount(cost), condition)

    def test_the_fact_of_the_terms(self):
        source = random.Random(254)
        for _ in range(80):
            condition = random_condition(source)
            terms = condition_terms(condition)
            self.assertIsInstance(terms, tuple)
            self.assertEqual(terms, tuple([group_term(group, least_order(group)) for group in condition]))
            kind, told = outcome_of(worth, terms, "done")[:2]
            # They always fit it.
            self.assertEqual(kind, "returned")
            self.assertEqual(-as_fraction(told), as_fraction(condition_cost(condition)), condition)

    def test_the_fact_of_keeping_to_the_orders(self):
        source = random.Random(255)
        for _ in range(25):
            condition = random_condition(source, 3)
            orders = [least_order(group) for group in condition]

            def next_by_order(standing, test):
                left = [number for number in orders[test[0]] if standing[test[0]][number] is None]
                return left[0] == test[1]

            keeping, free = Reference(condition, next_by_order), Reference(condition)
            self.assertEqual(keeping.left(nothing_asked(condition)), free.left(nothing_asked(condition)))
            # Whatever has been seen so far.
            for standing, cost in keeping.costs.items():
                self.assertEqual(cost, free.left(standing))
                self.assertEqual(as_amount(cost), cost_left(condition, standing))

    def test_conditions_of_eight_tests(self):
        source = random.Random(256)
        for _ in range(4):
            condition = random_condition(source)
            while sum(map(len, condition)) < 8:
                condition = random_condition(source)
            terms = condition_terms(condition)
            self.assertEqual(-as_fraction(worth(terms, "done")), as_fraction(condition_cost(condition)))
        both = (FOUR, tuple([(price, share, None) for price, share, _ in FOUR]))
        self.assertEqual(condition_cost(both), as_amount(Reference(both).left(nothing_asked(both))))


class Standings(Case):
    def test_those_that_can_come_about(self):
        source = random.Random(257)
        for _ in range(40):
            condition = random_condition(source, 3, 3, 6)
            told = set(all_standings(condition))
            for answers in product(*[product((None, True, False), repeat=len(group)) for group in condition]):
                self.assertIs(is_standing(condition, answers), answers in told, (condition, answers))

    def test_small_ones(self):
        for value, right in (
                (((None, None), (None,)), True), (((True, True), (None,)), True), (((True, None), (True,)), True),
                (((True, True), (True,)), False), (((False, False), (None,)), False), (((False, True), (True,)), True),
                (((False, None), (False,)), True), (((1, None), (None,)), False), (((0, None), (None,)), False),
                ([(None, None), (None,)], False), (([None, None], (None,)), False), (((None,), (None, None)), False),
                (((None, None),), False), (((None, None), (None,), (None,)), False), ((), False), (((), ()), False),
                ((("True", None), (None,)), False), (((None, None, None), (None,)), False)):
            self.assertIs(is_standing(BOTH, value), right, value)
        for value, right in ((((True, False, None),), True), (((None, True, None),), False), (((False, True, None),), False),
                             (((True, None, False),), False), (((True, True, True),), True), (((True, True, False),), True)):
            self.assertIs(is_standing((GUARDED,), value), right, value)
        self.judges(is_standing, [], ODD, ahead=(BOTH,))

    def test_open_and_best_tests_and_what_is_left(self):
        source = random.Random(258)
        several = 0
        for _ in range(30):
            condition = random_condition(source, 3, 3, 6)
            reference = Reference(condition)
            standings = all_standings(condition)
            for standing in source.sample(standings, min(len(standings), 60)):
                tests = may_be_asked(condition, standing)
                self.assertEqual(open_tests(condition, standing), tests)
                self.assertEqual(cost_left(condition, standing), as_amount(reference.left(standing)))
                best = [test for test in tests if reference.asking(standing, test) == reference.left(standing)]
                self.assertEqual(best_tests(condition, standing), best)
                several += len(best) > 1
        self.assertGreater(several, 10)

    def test_known_ones(self):
        for standing in (((True, True), (None,)), ((None, None), (True,)), ((False, None), (False,)), ((True, False), (False,))):
            self.assertIs(is_standing(BOTH, standing), True)
            self.assertEqual([open_tests(BOTH, standing), best_tests(BOTH, standing), cost_left(BOTH, standing)], [[], [], ZERO])
        # One group alone is false: the others go on.
        self.assertEqual(open_tests(BOTH, ((False, None), (None,))), [(1, 0)])
        self.assertEqual(cost_left(BOTH, ((False, None), (None,))), (2, 1))

    def test_guards(self):
        self.assertEqual(open_tests((GUARDED, DEAR), ((None,) * 3, (None, None))), [(0, 0), (1, 0), (1, 1)])
        self.assertEqual(open_tests((GUARDED, DEAR), ((True, None, None), (None, True))), [(0, 1), (1, 0)])
        self.assertEqual(open_tests((GUARDED, DEAR), ((True, True, None), (False, None))), [(0, 2)])

    def test_each_call_gives_a_new_list(self):
        for function, values in ((least_order, (DEAR,)), (open_tests, (BOTH, nothing_asked(BOTH))),
                                 (best_tests, (BOTH, nothing_asked(BOTH)))):
            function(*values).append("x")
            self.assertNotIn("x", function(*values))


class Errors(Case):
    def test_groups(self):
        wrong = [value for value in ODD + near(GUARDED) + [(), FOUR + FOUR] if not is_group(value)]
        self.refuses(BadGroup, least_order, wrong)
        for function in (is_group_order, group_cost, group_term):
            self.refuses(BadGroup, function, wrong, behind=([5],))

    def test_orders(self):
        wrong = [value for value in ODD + near([0, 1]) if value not in ([0, 1], [1, 0]) or isinstance(value[0], bool)]
        wrong += [[False, 1], [0, True], (0, 1), [0], [0, 0]]
        for function in (group_cost, group_term):
            self.refuses(BadGroupOrder, function, wrong, ahead=(DEAR,))
            self.refuses(BadGroupOrder, function, [[1, 0, 2]], ahead=(GUARDED,))

    def test_conditions(self):
        wrong = [value for value in ODD + near(BOTH) + [(), DEAR, (DEAR,) * 4] if not is_condition(value)]
        for function in (condition_terms, condition_cost):
            self.refuses(BadCondition, function, wrong)
        for function in (is_standing, open_tests, best_tests, cost_left):
            self.refuses(BadCondition, function, wrong, behind=(None,))

    def test_standings(self):
        wrong = [value for value in ODD + near(((True, None), (False,))) if not is_standing(BOTH, value)]
        self.assertGreater(len(wrong), len(ODD))
        for function in (open_tests, best_tests, cost_left):
            self.refuses(BadStanding, function, wrong + [((True, True), (True,)), ((1, None), (None,))], ahead=(BOTH,))
