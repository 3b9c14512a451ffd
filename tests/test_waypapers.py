import random
from fractions import Fraction

from onenumber.companies import alike, counted, goes_with
from onenumber.errors import BadHabit, BadLadder, BadWays, NoCompany, NoFit
from onenumber.ladders import chain, is_ladder
from onenumber.terms import is_term
from onenumber.waypapers import best_lists, is_way_paper, way_paper
from onenumber.ways import best_everywhere, best_in, two_companies
from tests.values import (
    END,
    HALF,
    LEAF,
    ODD,
    Case,
    as_amount,
    grid_of_companies,
    near,
    random_ladder,
    random_term,
    small_ladder,
)

HABITS = ("done", "free")
WORK = ("step", (1, 1), ((HALF, END),))
MORE = ("step", (2, 1), ((HALF, END),))
AGAINST = ("step", (-2, 1), (((2, 1), END),))
DOWN = ("step", (0, 1), (((2, 1), END),))
# The first is best in the empty company, the second one in the other company.
ONE = ("step", (3, 1), (((2, 1), ("step", (2, 1), ())),))
TWO = ("step", (1, 1), (((2, 1), ("step", (2, 1), ((HALF, END),))),))
K = (((3, 1), (-1, 1)), ((4, 1), (2, 1)))
TIED = (((2, 1), (1, 1)),)
GRID = grid_of_companies()


def random_ways(source):
    while True:
        habit, total = source.choice(HABITS), source.choice([None, 0, 1, 3])
        if source.randint(0, 2):
            ways = tuple([chain(small_ladder(source, 2, total)) for _ in range(source.randint(1, 4))])
        else:
            ways = tuple([random_term(source, 8) for _ in range(source.randint(1, 4))])
        if goes_with(ways, (), habit):
            return ways, habit


def is_paper_by_definition(ways, habit, value):
    """As the document tells it, for values that have the form of papers."""
    if value[0] == "one":
        return value[1] in best_everywhere(ways, habit)
    for company in value[1:]:
        if not goes_with(ways, company, habit):
            return False
    return not [way for way in best_in(ways, value[1], habit) if way in best_in(ways, value[2], habit)]


class WayPapers(Case):
    def test_papers_are_right(self):
        source = random.Random(201)
        kinds = {"one": 0, "two": 0}
        for _ in range(150):
            ways, habit = random_ways(source)
            paper = way_paper(ways, habit)
            kinds[paper[0]] += 1
            self.assertIs(is_way_paper(ways, habit, paper), True, (ways, habit))
            self.assertEqual(paper[0] == "one", bool(best_everywhere(ways, habit)))
            if paper[0] == "two":
                self.assertEqual(len(paper), 3)
                self.assertEqual(paper[1:], two_companies(ways, habit))
        self.assertGreater(min(kinds.values()), 20)

    def test_small_ones(self):
        self.assertEqual([way_paper((END,), habit) for habit in HABITS], [("one", 0)] * 2)
        self.assertEqual(way_paper((WORK, MORE, END), "done"), ("one", 1))
        self.assertEqual(way_paper((ONE, TWO), "done")[0], "two")

    def test_each_best_way_is_a_paper(self):
        ways = (WORK, MORE, ("all", (MORE, END)))
        self.assertTrue(alike(ways[1], ways[2], "done"))
        self.assertEqual([is_way_paper(ways, "done", ("one", number)) for number in range(4)], [False, True, True, False])
        # A step that costs is never done by "free".
        self.assertIs(is_way_paper((AGAINST, END), "done", ("one", 0)), False)
        costs = ("step", (-1, 1), ((HALF, END),))
        self.assertEqual([is_way_paper((costs, END), "free", ("one", number)) for number in (0, 1)], [True, True])
        self.assertEqual([is_way_paper((costs, END), "done", ("one", number)) for number in (0, 1)], [False, False])

    def test_companies_of_papers(self):
        self.assertEqual([best_in((ONE, TWO), company, "done") for company in ((), K, TIED)], [[0], [1], [0, 1]])
        for first in ((), K, TIED):
            for second in ((), K, TIED):
                self.assertIs(is_way_paper((ONE, TWO), "done", ("two", first, second)), {first, second} == {(), K})
        # The first company does not go with the ways by "free", though it would by "done".
        back = (((-1, 1), (-3, 1)),)
        self.assertEqual([goes_with((ONE, TWO), back, habit) for habit in HABITS], [True, False])
        self.assertEqual(best_in((ONE, TWO), back, "done"), [0])
        self.assertEqual([is_way_paper((ONE, TWO), habit, ("two", back, K)) for habit in HABITS], [True, False])

    def test_companies_of_many_rungs(self):
        # The second rung of K, in 63 parts that point nearly where it points.
        parts = [(as_amount(Fraction(4, 63) + Fraction(31 - number, 10 ** 4)), (2, 63)) for number in range(63)]
        company = (K[0],) + tuple(parts)
        self.assertEqual(len(company), 64)
        self.assertTrue(is_ladder(company))
        self.assertEqual(best_in((ONE, TWO), company, "done"), [1])
        for habit in HABITS:
            self.assertIs(is_way_paper((ONE, TWO), habit, ("two", (), company)), True)
            self.assertIs(is_way_paper((ONE, TWO), habit, ("two", company, ())), True)
            self.assertIs(is_way_paper((ONE, TWO), habit, ("two", company, K)), False)
        # Of more than 64 rungs there is no ladder.
        self.assertIs(is_way_paper((ONE, TWO), "done", ("two", (), company + (((-9, 1), (0, 1)),))), False)
        self.assertEqual(best_lists((ONE, TWO), [company, ()], "free"), [[1], [0]])

    def test_random_companies(self):
        source = random.Random(202)
        found = {True: 0, False: 0}
        for _ in range(100):
            ways, habit = random_ways(source)
            for _ in range(8):
                companies = [source.choice(GRID) if source.randint(0, 1) else random_ladder(source, 3) for _ in range(2)]
                value = ("two", *companies)
                right = is_paper_by_definition(ways, habit, value)
                self.assertIs(is_way_paper(ways, habit, value), right, (ways, habit, value))
                found[right] += 1
            for number in range(len(ways)):
                self.assertIs(is_way_paper(ways, habit, ("one", number)), number in best_everywhere(ways, habit))
        self.assertGreater(min(found.values()), 10)

    def test_any_values(self):
        for value in ODD + near(("one", 1)) + [("one", True), ("two", 1), ("one", 1, 1), ("one", 10 ** 5000), ["one", 1],
                                               ("one", None), ("one", (1,)), ("One", 1), (1, "one")]:
            if value not in (("one", 1), ("one", 0)) or isinstance(value[1], bool):
                self.assertIs(is_way_paper((WORK, MORE), "done", value), False, value)
        for value in ODD:
            self.assertIs(is_way_paper((WORK, MORE), "free", ("one", value)), value == 1 and not isinstance(value, bool))
            for paper in (("two", value, K), ("two", K, value)):
                right = is_ladder(value) and is_paper_by_definition((ONE, TWO), "done", paper)
                self.assertIs(is_way_paper((ONE, TWO), "done", paper), right)
            self.assertIs(is_way_paper((ONE, TWO), "done", (value, (), K)), False)

    def test_near_values(self):
        right = ("two", (), K)
        self.assertIs(is_way_paper((ONE, TWO), "done", right), True)
        for value in near(right):
            told = is_way_paper((ONE, TWO), "done", value)
            if isinstance(value, tuple) and len(value) == 3 and value[0] == "two" and all(map(is_ladder, value[1:])):
                self.assertIs(told, is_paper_by_definition((ONE, TWO), "done", value), value)
            else:
                self.assertIs(told, False, value)

    def test_best_lists(self):
        source = random.Random(203)
        for _ in range(60):
            ways, habit = random_ways(source)
            companies = [company for company in source.sample(GRID, 12) if goes_with(ways, company, habit)]
            self.assertEqual(best_lists(ways, companies, habit), [best_in(ways, company, habit) for company in companies])
        self.assertEqual(best_lists((WORK,), [], "done"), [])
        self.assertEqual(best_lists((ONE, TWO), [K, (), K], "done"), [[1], [0], [1]])
        first, second = best_lists((WORK,), [(), ()], "done")
        self.assertIsNot(first, second)

    def test_best_lists_tell_the_first_wrong_company(self):
        away, far = (((-2, 1), (-1, 1)),), (((-4, 1), (-1, 1)),)
        for company in (away, far):
            self.assertTrue(is_ladder(company))
            self.assertFalse(goes_with((WORK, MORE), company, "done"))
        self.assertIs(self.told(NoCompany, best_lists, (WORK, MORE), [(), away, far], "done"), away)
        self.assertIs(self.told(NoCompany, best_lists, (WORK, MORE), [far, away], "done"), far)
        for value in ODD:
            if not is_ladder(value):
                self.assertIs(self.told(BadLadder, best_lists, (WORK, AGAINST), [(), value, None], "maybe"), value)
                self.assertIs(self.told(BadLadder, best_lists, (WORK, MORE), [away, value], "done"), value)

    def test_errors_in_their_sequence(self):
        for value in ODD + [(), (END,) * 5, [END], (END, None), (WORK, [END])]:
            if value == () or not isinstance(value, tuple) or len(value) > 4 or not all(map(is_term, value)):
                self.refuses(BadWays, way_paper, [value], behind=("maybe",))
                self.refuses(BadWays, is_way_paper, [value], behind=("maybe", None))
                self.refuses(BadWays, best_lists, [value], behind=([None], "maybe"))
        for value in ODD:
            self.refuses(BadHabit, way_paper, [value], ahead=((WORK, AGAINST),))
            self.refuses(BadHabit, is_way_paper, [value], ahead=((WORK, AGAINST),), behind=(("one", 0),))
            self.refuses(BadHabit, best_lists, [value], ahead=((WORK, AGAINST), [()]))
        for ways, habit in (((WORK, END, AGAINST), "done"), ((DOWN,), "free")):
            self.assertIs(self.told(NoFit, way_paper, ways, habit), ways)
            self.assertIs(self.told(NoFit, is_way_paper, ways, habit, None), ways)
            self.assertIs(self.told(NoFit, best_lists, ways, [], habit), ways)
            self.assertIs(self.told(NoFit, best_lists, ways, [(((-2, 1), (-1, 1)),)], habit), ways)

    def test_ladders_of_papers_stand_for_ways(self):
        ways = (WORK, MORE)
        number = way_paper(ways, "done")[1]
        self.assertEqual(counted(ways[number], "done"), counted(MORE, "done"))
        self.assertEqual(best_lists(ways, [(), TIED], "done"), [[1], [1]])
        self.assertEqual(best_lists((LEAF, LEAF), [()], "free"), [[0, 1]])
