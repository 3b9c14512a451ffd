import random
from fractions import Fraction
from itertools import product

from onenumber.amounts import is_fraction
from onenumber.errors import BadPlan, BadProject, BadShare, BadWorked, BadYard
from onenumber.projects import (
    best_plan,
    falling,
    is_plan,
    is_project,
    is_yard,
    next_projects,
    plan_worth,
    project_term,
    yard_terms,
    yard_worth,
)
from onenumber.worths import worth
from tests.values import END, HALF, ODD, ONE, ZERO, Case, as_amount, as_fraction, near, outcome_of, random_fraction

YARD = (HALF, ((ONE, (6, 1)), ((2, 1), ONE), ((-1, 1), (3, 1))))
POOR = (HALF, (((-1, 1), (1, 1)), (ZERO, ZERO)))
FULL = ((9, 10), (tuple([(number, 1) for number in range(8)]), (ONE,), (ONE, ONE, ONE)))


def random_yard(source, most=7):
    share = as_amount(Fraction(source.randint(1, 9), 10))
    projects = []
    for _ in range(source.randint(1, 3)):
        room = min(4, most - sum([len(project) for project in projects]))
        if room > 0:
            projects.append(tuple([random_fraction(source, 4) for _ in range(source.randint(1, room))]))
    return (share, tuple(projects))


def all_plans(yard, days=None):
    """All plans of a yard, or those with at most so many days of each project."""
    days = [len(project) for project in yard[1]] if days is None else days
    found = [[]]
    for plan in found:
        for number in range(len(days)):
            if plan.count(number) < days[number]:
                found.append(plan + [number])
    return found


def worth_by_sum(yard, plan, worked=None):
    """As the document tells it, behind some days that have been worked."""
    worked = [0] * len(yard[1]) if worked is None else worked
    total = Fraction(0)
    for position, number in enumerate(plan):
        day = worked[number] + plan[:position].count(number)
        total += as_fraction(yard[1][number][day]) * as_fraction(yard[0]) ** position
    return total


def wage_by_sum(share, days):
    powers = [as_fraction(share) ** position for position in range(len(days))]
    return sum([as_fraction(pay) * power for pay, power in zip(days, powers)]) / sum(powers)


def falling_by_definition(share, project):
    rest = list(project)
    found = []
    while rest:
        wages = [wage_by_sum(share, rest[:count]) for count in range(1, len(rest) + 1)]
        longest = max([count for count in range(1, len(rest) + 1) if wages[count - 1] == max(wages)])
        found += [as_amount(max(wages))] * longest
        rest = rest[longest:]
    return found


class Projects(Case):
    def test_what_is_a_project(self):
        right = [(ONE,), (ONE,) * 8, ((-5, 3), ZERO)]
        wrong = [(), (ONE,) * 9, [ONE], ONE, (ONE, None), (ONE, (2, 2)), (1, 2), ((True, 1),), ((ONE,),)]
        self.judges(is_project, right, wrong)
        for value in ODD:
            fractions = isinstance(value, tuple) and 0 < len(value) <= 8 and all(map(is_fraction, value))
            self.assertIs(is_project(value), fractions)

    def test_what_is_a_yard(self):
        right = [YARD, POOR, FULL, (HALF, ((ONE,),)), ((999, 1000), ((ONE,) * 4,) * 3)]
        projects = YARD[1]
        wrong = [(ZERO, projects), (ONE, projects), ((3, 2), projects), ((-1, 2), projects), (HALF, ()), (HALF, ((ONE,),) * 4),
                 (HALF, ((ONE,) * 8, (ONE,) * 5)), (HALF, ((ONE,) * 5, (ONE,) * 4, (ONE,) * 4)), (HALF, list(projects)),
                 [HALF, projects], (HALF, projects, ()), (HALF,), ((2, 4), projects), (HALF, (ONE,)), (HALF, projects[0]),
                 (HALF, ((),)), (HALF, ((ONE,) * 9,)), (HALF, (list(projects[0]),)), (1, projects), ((True, 2), projects)]
        self.judges(is_yard, right, wrong + ODD)
        for value in near(YARD):
            if is_yard(value):
                self.assertTrue(0 < as_fraction(value[0]) < 1 and all(map(is_project, value[1])))

    def test_terms(self):
        self.assertEqual(project_term(HALF, ((5, 1),)), ("step", (5, 1), ((HALF, END),)))
        self.assertEqual(project_term((1, 3), (ONE, (-2, 1), (3, 1))), ("step", ONE, (((1, 3), (
            "step", (-2, 1), (((1, 3), ("step", (3, 1), (((1, 3), END),))),))),)))
        self.assertEqual(yard_terms(YARD), tuple([project_term(HALF, project) for project in YARD[1]]))
        self.assertIsInstance(yard_terms(YARD), tuple)

    def test_falling_lists(self):
        self.assertEqual(falling(HALF, (ONE, (6, 1))), [(8, 3), (8, 3)])
        # Of stretches of one wage the longest is taken; the list is the same either way.
        self.assertEqual(falling(HALF, (ONE, ONE, (2, 1), (3, 1))), [falling(HALF, (ONE, ONE, (2, 1), (3, 1)))[0]] * 4)
        self.assertEqual(falling((1, 3), ((3, 1), (2, 1), ONE)), [(3, 1), (2, 1), ONE])
        source = random.Random(241)
        for _ in range(200):
            share = as_amount(Fraction(source.randint(1, 9), 10))
            project = tuple([random_fraction(source, 4) for _ in range(source.randint(1, 8))])
            told = falling(share, project)
            self.assertEqual(told, falling_by_definition(share, project), (share, project))
            entries = [as_fraction(entry) for entry in told]
            self.assertEqual(entries, sorted(entries, reverse=True))

    def test_the_fact_of_falling_lists(self):
        source = random.Random(242)
        for _ in range(60):
            yard = random_yard(source)
            entries = sorted([as_fraction(entry) for project in yard[1] for entry in falling(yard[0], project)], reverse=True)
            told = sum([entry * as_fraction(yard[0]) ** position for position, entry in enumerate(entries) if entry > 0])
            self.assertEqual(told, max([worth_by_sum(yard, plan) for plan in all_plans(yard)]))


class Plans(Case):
    def test_what_is_one(self):
        right = [[], [0], [2, 2], [0, 1, 2, 0, 1, 2], [1, 0, 1]]
        wrong = [[0, 0, 0], [3], [-1], (0, 1), [True], [False, 0], [None], ["0"], [0, 1, 2, 0, 1, 2, 0], {0: 1}, {}, [[0]],
                 list(range(50000)), [0] * 50000]
        self.judges(is_plan, right, wrong + [value for value in ODD if value not in ([], [1, 2])], ahead=(YARD,))
        plans = all_plans(YARD)
        for plan in product(range(3), repeat=4):
            self.assertIs(is_plan(YARD, list(plan)), list(plan) in plans)

    def test_worths(self):
        source = random.Random(243)
        for _ in range(30):
            yard = random_yard(source, 6)
            for plan in all_plans(yard):
                self.assertEqual(plan_worth(yard, plan), as_amount(worth_by_sum(yard, plan)))
        self.assertEqual(plan_worth(YARD, []), ZERO)

    def test_greatest_worths(self):
        source = random.Random(244)
        for _ in range(60):
            yard = random_yard(source)
            best = max([worth_by_sum(yard, plan) for plan in all_plans(yard)])
            self.assertEqual(yard_worth(yard), as_amount(best))
            plan = best_plan(yard)
            self.assertIs(is_plan(yard, plan), True)
            self.assertEqual(plan_worth(yard, plan), as_amount(best))
            # The fact: it is the worth of the terms by "free", which they always fit.
            self.assertEqual(worth(yard_terms(yard), "free"), as_amount(best))
        self.assertEqual(yard_worth((HALF, (((-1, 1), ONE),))), ZERO)
        self.assertEqual(plan_worth(POOR, best_plan(POOR)), ZERO)

    def test_yards_of_twelve_days(self):
        for yard in (FULL, (HALF, ((ONE, (-4, 1), (9, 1), ZERO),) * 3)):
            entries = sorted([as_fraction(entry) for project in yard[1] for entry in falling(yard[0], project)], reverse=True)
            told = sum([entry * as_fraction(yard[0]) ** position for position, entry in enumerate(entries) if entry > 0])
            self.assertEqual(yard_worth(yard), as_amount(told))
            self.assertEqual(plan_worth(yard, best_plan(yard)), as_amount(told))

    def test_next_projects(self):
        source = random.Random(245)
        several = 0
        for _ in range(25):
            yard = random_yard(source, 6)
            for worked in product(*[range(len(project) + 1) for project in yard[1]]):
                plans = all_plans(yard, [len(project) - days for project, days in zip(yard[1], worked)])
                worths = [worth_by_sum(yard, plan, worked) for plan in plans]
                firsts = sorted({plan[0] for plan, amount in zip(plans, worths) if plan and amount == max(worths)})
                self.assertEqual(next_projects(yard, worked), firsts, (yard, worked))
                several += len(firsts) > 1
        self.assertGreater(several, 0)

    def test_where_nothing_that_is_left_pays(self):
        self.assertEqual(next_projects(POOR, (0, 0)), [1])
        self.assertEqual(next_projects(POOR, (1, 1)), [0])
        self.assertEqual(next_projects(POOR, (2, 1)), [1])
        self.assertEqual(next_projects(POOR, (2, 2)), [])
        self.assertEqual(next_projects((HALF, ((ONE, (-1, 1)), (ONE,))), (0, 0)), [0, 1])
        self.assertEqual(next_projects((HALF, ((ONE, (-1, 1)), (ONE,))), (1, 1)), [])
        # Going on is as good as ending where a loss is made up for later.
        self.assertEqual(next_projects((HALF, (((-1, 1), (2, 1)),)), (0,)), [0])

    def test_each_call_gives_a_new_list(self):
        for function, values in ((best_plan, (YARD,)), (next_projects, (YARD, (0, 0, 0))), (falling, YARD[:1] + YARD[1][:1])):
            function(*values).append(9)
            self.assertNotIn(9, function(*values))


class Errors(Case):
    def test_shares_and_projects(self):
        shares = [value for value in ODD if not is_fraction(value) or not 0 < as_fraction(value) < 1]
        for function in (project_term, falling):
            self.refuses(BadShare, function, shares + [ZERO, ONE, (3, 2), (-1, 2), (2, 4)], behind=((),))
            wrong = [value for value in ODD + near(YARD[1][0]) + [(), (ONE,) * 9] if not is_project(value)]
            self.refuses(BadProject, function, wrong, ahead=(HALF,))

    def test_yards(self):
        wrong = [value for value in ODD + near(YARD) if not is_yard(value)]
        for function in (yard_terms, yard_worth, best_plan):
            self.refuses(BadYard, function, wrong)
        for function in (is_plan, plan_worth, next_projects):
            self.refuses(BadYard, function, wrong, behind=(None,))

    def test_plans(self):
        wrong = [value for value in ODD + near([0, 2]) + [[0, 0, 0], [3], (0, 1)] if not is_plan(YARD, value)]
        self.refuses(BadPlan, plan_worth, wrong, ahead=(YARD,))
        self.assertEqual(outcome_of(plan_worth, YARD, [0, True]), ("raised", "BadPlan", [0, True]))

    def test_days_worked(self):
        wrong = [value for value in ODD if not isinstance(value, tuple) or len(value) != 3]
        wrong += [(0, 0), (0, 0, 0, 0), (3, 0, 0), (-1, 0, 0), [0, 0, 0], (0, True, 0), (0, None, 0), (0, 0, "0"), ((0,), 0, 0)]
        self.refuses(BadWorked, next_projects, wrong, ahead=(YARD,))
        self.assertEqual(next_projects(YARD, (2, 2, 0)), [2])
