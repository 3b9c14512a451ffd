"""The examples of the document, as they stand there."""

import unittest

from onenumber.algebra import blend, glue, side_by_side
from onenumber.amounts import compare, fraction, minus, over
from onenumber.boxes import best_moves, boxes_worth, reserve, worth_of
from onenumber.companies import alike, counted, lots, worth_in
from onenumber.conditions import (
    best_tests,
    condition_cost,
    cost_left,
    group_cost,
    group_term,
    least_order,
    open_tests,
)
from onenumber.console import Console
from onenumber.days import Day
from onenumber.dominance import between, is_worse_in, never_worse, worse_in
from onenumber.errors import BadChoice, BadText
from onenumber.floors import best_steps, course_worths, floor, floors, is_cover, is_floors
from onenumber.forests import best_order, best_worth, forest_term, is_right_cut, order_worth, right_cut
from onenumber.frames import is_ring, is_witness, ring, witness
from onenumber.joins import hung, least_cost, least_row, row_cost
from onenumber.ladderpapers import is_paper, paper
from onenumber.ladders import chain, is_ladder, left, pays
from onenumber.logs import account, format_day, is_account, parse_day
from onenumber.numbers import ladder_of, mix_ladder, numbers
from onenumber.pairs import are_level, is_ahead, spread, total
from onenumber.parting import is_parting, parting
from onenumber.places import after, front, histories, places, step_places
from onenumber.projects import best_plan, falling, next_projects, plan_worth, project_term, yard_worth
from onenumber.rules import front_numbers, rule_step, rule_walk, rule_worth
from onenumber.spans import firsts, pieces, regret
from onenumber.states import size, states
from onenumber.terms import is_toss, pair_of, parts, steps
from onenumber.termtexts import format_term, parse_term
from onenumber.waypapers import best_lists, is_way_paper, way_paper
from onenumber.ways import beaten_in, best_everywhere, best_in, ladder_of_ways, two_companies
from onenumber.worths import beside, company_worth, ladder_worth, worth

good, slow, join = ((4, 1), (1, 2)), ((1, 1), (1, 2)), ((-1, 1), (-1, 1))
work_pair, filt = ((1, 1), (1, 2)), ((-1, 10), (1, 2))
tree = ("step", (3, 1), (((1, 2), ("end",)), ((1, 4), ("step", (-1, 1), ()))))
two = (((4, 1), (1, 2)), ((1, 2), (1, 2)))
late = ("step", (1, 1), (((1, 2), ("step", (9, 1), ())),))
toss = ("step", (0, 1), (((1, 2), late), ((1, 2), ("end",))))
work = ("step", (2, 1), (((1, 2), ("step", (4, 1), ())),))
sure = ("step", (3, 1), (((1, 1), ("end",)),))
costs = ("step", (-1, 1), (((1, 2), ("step", (1, 1), ())),))
ONE = ("step", (3, 1), (((2, 1), ("step", (2, 1), ())),))
TWO = ("step", (1, 1), (((2, 1), ("step", (2, 1), (((1, 2), ("end",)),))),))
K = (((3, 1), (-1, 1)), ((4, 1), (2, 1)))
TOSS = ("step", (0, 1), (((1, 2), ONE), ((1, 2), ONE)))
PAYS, MORE = ("step", (1, 1), ()), ("step", (2, 1), ())
RUNG = (((2, 1), (1, 1)),)
half, one = (1, 2), (1, 1)
forest = ((None, (-1, 1), half), (0, (4, 1), half), (None, one, half))
tables = (((10, 1), (20, 1), (5, 1)), ((0, 1, (1, 10)), (1, 2, (1, 5))))
first, second = ((1, 1), (((1, 2), (6, 1)), ((1, 2), (0, 1)))), ((1, 1), (((1, 4), (8, 1)), ((3, 4), (2, 1))))
dear = (((1, 1), (1, 2), None), ((4, 1), (1, 4), None))
groups = (dear, (((2, 1), (1, 2), None),))
yard = ((1, 2), (((1, 1), (6, 1)), ((2, 1), (1, 1)), ((-1, 1), (3, 1))))


class Examples(unittest.TestCase):
    def test_amounts(self):
        self.assertEqual(repr([fraction(6, -4), minus((1, 2), (1, 3)), over((3, 2), (-1, 2)), compare((1, 3), (2, 7))]),
                         "[(-3, 2), (1, 6), (-3, 1), 1]")

    def test_pairs(self):
        told = [is_ahead(good, slow), is_ahead(slow, good), are_level(slow, spread(slow, (3, 1))), total([good, join])]
        self.assertEqual(repr(told), "[True, False, True, ((3, 1), (-1, 2))]")

    def test_frames(self):
        three = [join, work_pair, ((-1, 1), (1, 1))]
        told = [ring([work_pair, filt]), witness([join, work_pair, filt]), is_ring(three, ring(three))]
        self.assertEqual(told, [None, None, True])
        told = [is_witness([work_pair, filt], ((0, 1), (1, 1))),
                is_ring([work_pair, ((-2, 1), (-1, 1))], ((0, (2, 1)), (1, (1, 1))))]
        self.assertEqual(told, [True, True])

    def test_terms(self):
        toss = ("step", (0, 1), (((1, 1), ("end",)),))
        told = [len(parts(tree)), len(steps(tree)), pair_of(tree), is_toss(toss)]
        self.assertEqual(repr(told), "[3, 2, ((3, 1), (1, 4)), True]")

    def test_places(self):
        told = [places(tree), step_places(tree), front((("all", (tree, ("end",))), ("end",)))]
        self.assertEqual(repr(told), "[[(), (0,), (1,)], [(), (1,)], [(0, 0)]]")
        self.assertEqual(repr(after((tree,), (0,))),
                         "[((1, 2), (('end',),)), ((1, 4), (('step', (-1, 1), ()),))]")
        self.assertEqual(repr(histories(tree)), "[((((), 0),), (1, 2)), ((((), 1), ((1,), None)), (0, 1))]")

    def test_termtexts(self):
        self.assertEqual(format_term(tree), "step 3 ( 1/2 end 1/4 step -1 ( ) )")
        self.assertEqual(repr(parse_term("all ( end end )")), "('all', (('end',), ('end',)))")
        with self.assertRaises(BadText) as caught:
            parse_term("step 3 ( 2/4 end )")
        self.assertEqual(caught.exception.value, 3)

    def test_ladders(self):
        told = [is_ladder(two), is_ladder(two[::-1]), pays(two), left(two)]
        self.assertEqual(repr(told), "[True, False, (9, 2), [(1, 2), (0, 1)]]")
        self.assertEqual(repr(chain(two)), "('step', (4, 1), (((1, 2), ('step', (1, 1), ())),))")

    def test_algebra(self):
        told = [glue(((1, 1), (1, 2)), [((9, 2), (1, 2))]), glue(((1, 1), (1, 2)), [((1, 2), (1, 2))])]
        self.assertEqual(repr(told), "[(((11, 2), (1, 1)),), (((1, 1), (1, 2)), ((1, 2), (1, 2)))]")
        told = [side_by_side([two, (((1, 1), (1, 2)),)]), blend([((1, 2), two), ((1, 2), ())])]
        self.assertEqual(repr(told), "[(((4, 1), (1, 2)), ((1, 2), (1, 4)), ((1, 4), (1, 4))), "
                                     "(((2, 1), (1, 4)), ((1, 4), (1, 4)))]")

    def test_numbers(self):
        told = [ladder_of(late), numbers(late), ladder_of(toss), numbers(toss)[0]]
        self.assertEqual(repr(told), "[(((11, 2), (1, 1)),), [((11, 2), (1, 1)), ((9, 1), (1, 1))], "
                                     "(((11, 4), (1, 2)),), 'toss']")

    def test_ladderpapers(self):
        told = [paper(late), is_paper(late, paper(late)), is_paper(late, paper(toss))]
        self.assertEqual(repr(told), "[[(((11, 2), (1, 1)),), (((9, 1), (1, 1)),)], True, False]")

    def test_worths(self):
        told = [mix_ladder((work,)), mix_ladder((work, sure)), worth((work, sure), "done")]
        self.assertEqual(repr(told), "[(((4, 1), (1, 1)),), (((3, 1), (0, 1)), ((4, 1), (1, 1))), (7, 1)]")
        told = [worth((costs,), "done"), worth((costs,), "free"), worth((costs, work), "free"), worth((costs, work), "done")]
        self.assertEqual(repr(told), "[(-1, 2), (0, 1), (4, 1), (4, 1)]")
        ladder = (((4, 1), (1, 1)),)
        told = [ladder_worth(ladder, "free"), beside(ladder, (3, 1), (0, 1), "done"),
                beside(ladder, (6, 1), (1, 2), "done"), company_worth((ladder, ladder), "done")]
        self.assertEqual(repr(told), "[(4, 1), (4, 1), (8, 1), (4, 1)]")

    def test_rules(self):
        self.assertEqual(repr(front_numbers((work, sure), "done")), "[((0,), ((4, 1), (1, 1))), ((1,), ((3, 1), (0, 1)))]")
        told = [rule_step((work, sure), "done"), rule_step((costs,), "free"), rule_step((costs,), "done"),
                rule_worth((work, sure), "done")]
        self.assertEqual(repr(told), "[(1,), None, (0,), (7, 1)]")
        done, _, weight, paid = rule_walk((work, sure), "done", [0, 0])
        self.assertEqual(repr([done, weight, paid]), "[[(1,), (0,), (0,)], (0, 1), (7, 1)]")
        with self.assertRaises(BadChoice) as caught:
            rule_walk((work, sure), "done", [0, 1])
        self.assertEqual(caught.exception.value, 1)

    def test_states(self):
        both = ("all", (work, sure))
        self.assertEqual([size((both,)), states((both,))[2] == (("all", (work, ("end",))),)], [4, True])
        self.assertEqual([len(states((both,))), len(states((work, work))), size((work, work))], [4, 4, 4])

    def test_floors(self):
        mix = (work, sure)
        self.assertEqual(repr([floor(mix, "done"), best_steps(mix, "done")[0], floors(mix, "done")]),
                         "[(7, 1), [(1,)], [(7, 1), (7, 1), (4, 1), (4, 1)]]")
        self.assertEqual(repr([floor((costs,), "done"), floor((costs,), "free"), best_steps((costs,), "free")[0]]),
                         "[(-1, 2), (0, 1), [None]]")
        high = [(9, 1)] * 4
        told = [is_cover(mix, "done", high), is_floors(mix, "done", high), is_floors(mix, "done", floors(mix, "done"))]
        self.assertEqual(told, [False, False, True])
        doubles = ("step", (1, 1), (((2, 1), ("end",)),))
        self.assertEqual(repr([floor((doubles, sure), "done"), course_worths((doubles,), "done", [(0,), None])]),
                         "[(7, 1), [(1, 1), (0, 1)]]")

    def test_companies(self):
        told = [counted(ONE, "done") == K, worth_in(ONE, K, "done"), worth_in(TWO, K, "done"), worth_in(ONE, RUNG, "done")]
        self.assertEqual(repr(told), "[True, (17, 1), (19, 1), (7, 1)]")
        told = [alike(TOSS, ONE, "done"), alike(ONE, TWO, "free"), lots((ONE, TWO, TOSS), "done")]
        self.assertEqual(repr(told), "[True, False, [[0, 2], [1]]]")

    def test_parting(self):
        told = [parting(ONE, TOSS, "done"), is_parting(PAYS, MORE, "done", ()),
                is_parting(PAYS, MORE, "done", (((5, 1), (1, 1)),))]
        self.assertEqual(told, [None, True, False])
        told = [is_parting(ONE, TWO, "done", RUNG), is_parting(ONE, TWO, "done", (((1, 1), (1, 1)),))]
        self.assertEqual(told, [False, True])

    def test_dominance(self):
        told = [never_worse(ONE, TWO, "done"), is_worse_in(ONE, TWO, "done", K), is_worse_in(ONE, TWO, "done", RUNG)]
        self.assertEqual(told, [False, True, False])
        told = [between(MORE, PAYS, "done"), between(ONE, TWO, "free"), never_worse(ONE, ONE, "done"),
                worse_in(MORE, PAYS, "free")]
        self.assertEqual(told, ["more", "neither", True, None])

    def test_ways(self):
        told = [best_in((ONE, TWO), (), "done"), best_in((ONE, TWO), K, "done"), best_in((ONE, TWO), RUNG, "done")]
        self.assertEqual(told, [[0], [1], [0, 1]])
        told = [best_everywhere((ONE, TWO), "done"), best_everywhere((PAYS, MORE, MORE), "done"),
                ladder_of_ways((PAYS, MORE), "free")]
        self.assertEqual(repr(told), "[[], [1, 2], (((2, 1), (1, 1)),)]")
        told = [two_companies((PAYS, MORE), "done"), ladder_of_ways((ONE, TWO), "done"),
                beaten_in((PAYS, MORE), 1, "done")]
        self.assertEqual(told, [None, None, None])

    def test_waypapers(self):
        told = [way_paper((PAYS, MORE), "done"), is_way_paper((ONE, TWO), "done", ("two", (), K)),
                is_way_paper((ONE, TWO), "done", ("two", (), RUNG))]
        self.assertEqual(repr(told), "[('one', 1), True, False]")
        told = [is_way_paper((ONE, TWO), "done", ("one", 0)), best_lists((ONE, TWO), [(), K], "free")]
        self.assertEqual(repr(told), "[False, [[0], [1]]]")

    def test_forests(self):
        told = [order_worth(forest, [0, 1, 2]), order_worth(forest, [2, 0, 1]), best_order(forest), best_worth(forest)]
        self.assertEqual(repr(told), "[(5, 4), (3, 2), [2, 0, 1], (3, 2)]")
        self.assertEqual(repr(forest_term(forest[:2])),
                         "('step', (-1, 1), (((1, 2), ('step', (4, 1), (((1, 2), ('end',)),))),))")
        self.assertIs(is_right_cut(forest, right_cut(forest)), True)

    def test_joins(self):
        told = [row_cost(tables, [0, 1, 2]), row_cost(tables, [2, 1, 0]), row_cost(tables, [1, 0, 2]), least_cost(tables)]
        self.assertEqual(repr(told), "[(40, 1), (40, 1), (40, 1), (40, 1)]")
        self.assertEqual(repr(hung(tables, 0)), "(((None, (-2, 1), (2, 1)), (0, (-1, 1), (1, 1))), [1, 2])")
        self.assertEqual(row_cost(tables, least_row(tables)), (40, 1))

    def test_boxes(self):
        told = [reserve(first), reserve(second), boxes_worth((first,)), boxes_worth((first, second))]
        self.assertEqual(repr(told), "[(4, 1), (4, 1), (2, 1), (13, 4)]")
        told = [best_moves((first, second), (None, None)), best_moves((first, second), (0, None)),
                best_moves((first, second), (1, None)), worth_of((first, second), (1, None))]
        self.assertEqual(repr(told), "[[('open', 0), ('open', 1)], [('take', 0)], [('open', 1)], (5, 2)]")

    def test_projects(self):
        self.assertEqual(repr([falling((1, 2), project) for project in yard[1]]),
                         "[[(8, 3), (8, 3)], [(2, 1), (1, 1)], [(1, 3), (1, 3)]]")
        told = [plan_worth(yard, [0, 0, 1, 1]), plan_worth(yard, [1, 0, 0, 1]), yard_worth(yard), best_plan(yard)]
        self.assertEqual(repr(told), "[(37, 8), (33, 8), (149, 32), [0, 0, 1, 1, 2, 2]]")
        told = [next_projects(yard, (0, 0, 0)), next_projects(yard, (1, 0, 0)), next_projects(yard, (2, 2, 2))]
        self.assertEqual(repr(told), "[[0], [0], []]")
        self.assertEqual(repr(project_term((1, 2), ((5, 1), (7, 1)))),
                         "('step', (5, 1), (((1, 2), ('step', (7, 1), (((1, 2), ('end',)),))),))")

    def test_conditions(self):
        told = [group_cost(dear, [0, 1]), group_cost(dear, [1, 0]), least_order(dear), condition_cost(groups)]
        self.assertEqual(repr(told), "[(3, 1), (17, 4), [0, 1], (7, 2)]")
        nothing = ((None, None), (None,))
        self.assertEqual(repr([open_tests(groups, nothing), best_tests(groups, nothing)]), "[[(0, 0), (0, 1), (1, 0)], [(1, 0)]]")
        told = [cost_left(groups, ((True, None), (None,))), cost_left(groups, ((None, False), (True,))),
                best_tests(groups, ((True, None), (False,)))]
        self.assertEqual(repr(told), "[(4, 1), (0, 1), [(0, 1)]]")
        self.assertEqual(repr(group_term(dear, [0, 1])),
                         "('step', (-1, 1), (((1, 2), ('step', (-4, 1), (((3, 4), ('end',)),))), ((1, 2), ('end',))))")

    def test_spans(self):
        alone = (("step", (0, 1), ()),)
        self.assertEqual(repr([pieces(alone, (0,), "done"), pieces(alone, (0,), "free")]),
                         "[[(None, (0, 1), (1, 1))], [(None, (0, 1), (0, 1)), ((0, 1), (0, 1), (1, 1))]]")
        self.assertEqual(repr(firsts(alone, (0,), "free")), "[(None, None, [None]), ((0, 1), [None, (0,)], [(0,)])]")
        pair = (("step", (0, 1), (((1, 2), ("end",)),)), ("step", (4, 1), (((1, 2), ("end",)),)))
        self.assertEqual(repr([pieces(pair, (0,), "done"), regret(pair, (0,), "done", (0,), (0, 1), (8, 1))]),
                         "[[(None, (4, 1), (1, 2)), ((4, 1), (2, 1), (1, 1))], ((2, 1), (0, 1))]")

    def two_days(self):
        """The days of the examples, and the number that the term that comes has."""
        day = Day((work, sure))
        self.assertEqual(repr([day.first, day.losses(), day.best()]), "[(7, 1), [((0,), (3, 2)), ((1,), (0, 1))], [(1,)]]")
        day.do((0,), 0)
        chance = ("step", (0, 1), (((1, 2), sure), ((1, 2), ("end",))))
        other = Day((chance,), habit="free")
        other.do((0,), 1)
        return day, other, other.come(work)

    def test_days(self):
        day, other, number = self.two_days()
        told = [day.paid, day.lost, day.weight, day.to_come, day.term(0), len(day.deeds())]
        self.assertEqual(repr(told), "[(2, 1), (3, 2), (1, 2), (7, 2), ('step', (4, 1), ()), 1]")
        self.assertEqual(repr([number, other.passed, other.changed, other.to_come, other.deeds()]),
                         "[0, (3, 2), (2, 1), (2, 1), [('do', (0,), 1), "
                         "('come', ('step', (2, 1), (((1, 2), ('step', (4, 1), ())),)))]]")
        other.leave()
        self.assertEqual(repr([other.is_over, other.lost, other.best()]), "[True, (2, 1), []]")

    def test_logs(self):
        day, other, _ = self.two_days()
        other.leave()
        self.assertEqual(format_day(day), "day done mix ( step 2 ( 1/2 step 4 ( ) ) step 3 ( 1 end ) )\ndo 0 0")
        self.assertEqual(repr(account(format_day(day))), "[((0, 1), (0, 1), (0, 1), (0, 1), (7, 1)), "
                                                         "((2, 1), (0, 1), (3, 2), (0, 1), (7, 2))]")
        told = [is_account(format_day(day), account(format_day(day))[:1]), parse_day(format_day(other)).lost]
        self.assertEqual(repr(told), "[False, (2, 1)]")

    def test_console(self):
        console = Console()
        lines = ("open a done mix ( step 2 ( 1/2 step 4 ( ) ) step 3 ( 1 end ) )", "best a", "do a 0 0")
        self.assertEqual([console.answer(line) for line in lines], ["ok", "1", "ok"])
        self.assertEqual([console.answer(line) for line in ("tell a", "losses a", "do a 0 0", "do b 0 0", "do a  0")],
                         ["first 7 changed 0 paid 2 passed 0 lost 3/2 left 7/2 weight 1/2", "0:3/2 1:0", "? BadOutcome",
                          "? NoDay", "? BadLine"])
        self.assertEqual([console.answer(line) for line in ("undo a", "tell a", "names")],
                         ["ok", "first 7 changed 0 paid 0 passed 0 lost 0 left 7 weight 1", "a"])


if __name__ == "__main__":
    unittest.main()
