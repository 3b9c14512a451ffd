import itertools
import random
import unittest

from onenumber.errors import BadTerm
from onenumber.terms import are_rearranged, in_order, is_mix, is_term, is_toss, pair_of, pairs_of, parts, steps
from tests.values import (
    END, HALF, LEAF, NOTHING, ODD, ONE, as_amount, as_fraction, deep_all, deep_step, doubled, nested, random_term,
)

TREE = ("step", (3, 1), ((HALF, END), ((1, 4), ("step", (-1, 1), ()))))
TOSS = ("step", (0, 1), ((HALF, LEAF), (HALF, END)))
RIGHT = [
    END, LEAF, TREE, TOSS, ("all", (END, END)), ("all", (TREE, END, TOSS)), ("step", (-7, 3), (((9, 2), END),) * 3),
    ("step", (0, 1), ()), ("all", (("all", (END, LEAF)), END)),
]
WRONG = [
    None, True, 0, "end", "", (), [], {}, ("end", ()), ("end", "end"), ["end"], ("END",), (END,), (("end",),), ("step",),
    ("step", (1, 1)), ("step", (1, 1), (), ()), ("step", 1, ()), ("step", (2, 2), ()), ("step", (True, 1), ()),
    ("step", [1, 1], ()), ("step", (1, 1), []), ["step", (1, 1), ()], ("step", (1, 1), None), ("step", (1, 1), END),
    ("step", (1, 1), ((HALF, END),) * 4), ("step", (1, 1), ([HALF, END],)), ("step", (1, 1), (HALF, END)),
    ("step", (1, 1), ((HALF,),)), ("step", (1, 1), ((HALF, END, END),)), ("step", (1, 1), (((0, 1), END),)),
    ("step", (1, 1), (((-1, 2), END),)), ("step", (1, 1), (((2, 4), END),)), ("step", (1, 1), ((1, END),)),
    ("step", (1, 1), ((HALF, None),)), ("step", (1, 1), ((HALF, ["end"]),)), ("step", (1, 1), ((END, HALF),)),
    ("step", (1, 1), (((1, True), END),)), ("all",), ("all", ()), ("all", (END,)), ("all", (END,) * 4), ("all", [END, END]),
    ("all", (END, END), ()), ("all", END, END), ("all", (END, None)), ("all", (END, ["end"])), ["all", (END, END)],
    ("all", "ab"), ("all", "end"), ("step", (1, 1), "ab"), (None, (1, 1), ()), (["step"], (1, 1), ()), ("both", (END, END)),
]


def wide(count):
    """A term with so many steps, beside each other."""
    if count == 1:
        return LEAF
    return ("all", (LEAF, wide(count - 1)))


def with_parts(count):
    """A term without steps with so many parts, an odd number, or one less and a step."""
    if count % 2 == 0:
        return ("step", (1, 1), ((ONE, with_parts(count - 1)),))
    return END if count == 1 else ("all", (END, with_parts(count - 2)))


def parts_by_recursion(term):
    found = [term]
    for inner in ([entry[1] for entry in term[2]] if term[0] == "step" else term[1] if term[0] == "all" else ()):
        found.extend(parts_by_recursion(inner))
    return found


def all_rearranged(term):
    """All terms to which a term is rearranged, by permutations."""
    if term[0] == "step":
        inners = [[(weight, other) for other in all_rearranged(inner)] for weight, inner in term[2]]
    elif term[0] == "all":
        inners = [all_rearranged(inner) for inner in term[1]]
    else:
        return [term]
    rows = [row for chosen in itertools.product(*inners) for row in itertools.permutations(chosen)]
    return [(term[0], term[1], row) if term[0] == "step" else (term[0], row) for row in rows]


class IsTerm(unittest.TestCase):
    def test_right_and_wrong(self):
        for value in RIGHT:
            self.assertIs(is_term(value), True, value)
        for value in WRONG:
            self.assertIs(is_term(value), False, value)

    def test_wrong_within_another_one(self):
        for value in WRONG:
            self.assertIs(is_term(("all", (END, value))), False, value)
            self.assertIs(is_term(("all", (value, END, END))), False, value)
            self.assertIs(is_term(("step", (1, 1), ((HALF, END), (HALF, value)))), False, value)

    def test_bounds(self):
        self.assertIs(is_term(deep_step(16)), True)
        self.assertIs(is_term(deep_step(17)), False)
        self.assertIs(is_term(wide(16)), True)
        self.assertIs(is_term(wide(17)), False)
        self.assertIs(is_term(with_parts(47)), True)
        self.assertIs(is_term(with_parts(48)), True)
        self.assertIs(is_term(with_parts(49)), False)
        self.assertEqual([len(parts(with_parts(48))), len(steps(with_parts(48)))], [48, 1])

    def test_deep_and_doubled(self):
        for value in (deep_all(23), with_parts(47)):
            self.assertIs(is_term(value), True)
        for value in (deep_all(24), deep_all(99), deep_step(66), doubled(99), nested(tuple, 200)):
            self.assertIs(is_term(value), False)

    def test_any_value(self):
        for value in ODD:
            self.assertIn(is_term(value), (True, False))


class IsMix(unittest.TestCase):
    def test_numbers_of_terms(self):
        self.assertIs(is_mix(()), False)
        for count in range(1, 5):
            self.assertIs(is_mix((END,) * count), True)
            self.assertIs(is_mix([END] * count), False)
        self.assertIs(is_mix((END,) * 5), False)

    def test_bounds_of_all_terms_together(self):
        self.assertIs(is_mix((wide(8), wide(8))), True)
        self.assertIs(is_mix((wide(8), END, wide(9))), False)
        self.assertIs(is_mix((LEAF, LEAF, wide(14))), True)
        self.assertIs(is_mix((with_parts(48), with_parts(48))), True)
        self.assertIs(is_mix((with_parts(48), with_parts(47), END)), True)
        self.assertIs(is_mix((with_parts(48), with_parts(48), END)), False)
        self.assertIs(is_mix((END, with_parts(47), with_parts(47), END)), True)
        self.assertIs(is_mix((with_parts(49),)), False)
        self.assertIs(is_mix((deep_step(17),)), False)

    def test_wrong(self):
        for value in WRONG:
            self.assertIs(is_mix((value,)), False, value)
            self.assertIs(is_mix((END, value)), False, value)
        self.assertIs(is_mix(END), False)
        self.assertIs(is_mix(LEAF), False)

    def test_any_value(self):
        for value in ODD:
            self.assertIn(is_mix(value), (True, False))


class Parts(unittest.TestCase):
    def test_sequence(self):
        inner = ("step", (-1, 1), ())
        self.assertEqual(parts(TREE), [TREE, END, inner])
        self.assertEqual(steps(TREE), [TREE, inner])
        both = ("all", (TREE, END, TOSS))
        self.assertEqual(parts(both), [both, TREE, END, inner, END, TOSS, LEAF, END])
        self.assertEqual(steps(both), [TREE, inner, TOSS, LEAF])
        self.assertEqual([parts(END), steps(END), pairs_of(END)], [[END], [], []])

    def test_random_terms(self):
        source = random.Random(14)
        for _ in range(300):
            term = random_term(source)
            self.assertEqual(parts(term), parts_by_recursion(term))
            self.assertEqual(steps(term), [part for part in parts(term) if part[0] == "step"])
            self.assertEqual(pairs_of(term), [pair_of(step) for step in steps(term)])
            self.assertIsNot(parts(term), parts(term))

    def test_pairs(self):
        self.assertEqual(pair_of(TREE), ((3, 1), (1, 4)))
        self.assertEqual(pair_of(LEAF), (ONE, ONE))
        self.assertEqual(pair_of(TOSS), NOTHING)
        self.assertEqual(pair_of(("step", (1, 1), (((2, 1), END), ((1, 3), END)))), ((1, 1), (-4, 3)))
        self.assertEqual(pairs_of(("all", (TREE, TOSS))), [((3, 1), (1, 4)), ((-1, 1), ONE), NOTHING, (ONE, ONE)])
        source = random.Random(15)
        for _ in range(200):
            for step in steps(random_term(source)):
                fall = 1 - sum([as_fraction(weight) for weight, _ in step[2]])
                self.assertEqual(pair_of(step), (step[1], as_amount(as_fraction((1, 1)) * fall)))

    def test_long_weights(self):
        weights = [(1, 10 ** 12 - 1), (1, 10 ** 12 - 2), (1, 10 ** 12 - 3)]
        step = ("step", (1, 1), tuple([(weight, END) for weight in weights]))
        self.assertEqual(pair_of(step)[1], as_amount(1 - sum([as_fraction(weight) for weight in weights])))

    def test_errors(self):
        for function in (parts, steps, pairs_of, in_order):
            for value in WRONG + [deep_step(17), with_parts(49), doubled(99)]:
                with self.assertRaises(BadTerm) as caught:
                    function(value)
                self.assertIs(caught.exception.value, value)
        for value in WRONG + [END, ("all", (LEAF, LEAF)), deep_step(17), ("step", (1, 1), ((HALF, wide(16)),))]:
            with self.assertRaises(BadTerm) as caught:
                pair_of(value)
            self.assertIs(caught.exception.value, value)

    def test_any_value(self):
        for value in ODD:
            if not is_term(value):
                for function in (parts, steps, pairs_of, pair_of, in_order):
                    with self.assertRaises(BadTerm) as caught:
                        function(value)
                    self.assertIs(caught.exception.value, value)


class Tosses(unittest.TestCase):
    def test_tosses(self):
        for value in (TOSS, ("step", (0, 1), ((ONE, END),)), ("step", (0, 1), (((1, 3), END),) * 3),
                      ("step", (0, 1), (((1, 3), LEAF), ((2, 3), deep_step(14))))):
            self.assertIs(is_toss(value), True)
        for value in (END, LEAF, TREE, ("step", (0, 1), ()), ("step", (1, 1), ((ONE, END),)),
                      ("step", (0, 1), ((HALF, END),)), ("step", (0, 1), (((3, 2), END),)), ("all", (TOSS, TOSS)),
                      ("step", (0, 1), ((ONE, deep_step(16)),)), ["step", (0, 1), ((ONE, END),)]):
            self.assertIs(is_toss(value), False)

    def test_any_value(self):
        for value in WRONG:
            self.assertIs(is_toss(value), False)
        for value in ODD:
            self.assertIn(is_toss(value), (True, False))


class Rearranging(unittest.TestCase):
    def test_by_tuples_not_by_values(self):
        # (1, 3) stands ahead of (1, 2)? No: tuples are compared, so (1, 2) is ahead of (1, 3), and that of (2, 1).
        step = ("step", (1, 1), (((2, 7), END), ((1, 2), END), ((1, 3), END)))
        self.assertEqual(in_order(step), ("step", (1, 1), (((1, 2), END), ((1, 3), END), ((2, 7), END))))
        both = ("all", (LEAF, END, ("all", (LEAF, END))))
        self.assertEqual(in_order(both), ("all", (("all", (END, LEAF)), END, LEAF)))

    def test_the_inner_ones_first(self):
        # As they stand, the first member is ahead of the second one; in order it is behind it.
        low, high = ("step", (1, 1), ()), ("step", (2, 1), ())
        one = ("all", (low, ("all", (high, high))))
        other = ("all", (high, ("all", (high, low))))
        both = ("all", (one, other))
        self.assertEqual(in_order(both), ("all", tuple(sorted([in_order(one), in_order(other)]))))
        weights = ("step", (1, 1), ((HALF, ("all", (high, END))), (HALF, ("all", (low, END)))))
        self.assertEqual(in_order(weights), ("step", (1, 1), ((HALF, ("all", (END, low))), (HALF, ("all", (END, high))))))

    def test_all_rearranged_terms(self):
        source = random.Random(16)
        judged = 0
        while judged < 60:
            term = random_term(source, 14)
            rows = all_rearranged(term)
            if len(rows) > 3000:
                continue
            judged += 1
            for other in rows[:200]:
                self.assertEqual(in_order(other), in_order(term))
                self.assertIs(are_rearranged(term, other), True)
            self.assertIn(in_order(term), rows)
            self.assertEqual(in_order(in_order(term)), in_order(term))

    def test_order_at_all_places(self):
        source = random.Random(17)
        for _ in range(200):
            for part in parts(in_order(random_term(source))):
                within = part[2] if part[0] == "step" else part[1] if part[0] == "all" else ()
                self.assertEqual(list(within), sorted(within))

    def test_not_rearranged(self):
        self.assertIs(are_rearranged(TREE, TREE), True)
        self.assertIs(are_rearranged(END, LEAF), False)
        self.assertIs(are_rearranged(("all", (END, END)), ("all", (END, END, END))), False)
        self.assertIs(are_rearranged(("all", (LEAF, ("all", (END, END)))), ("all", (END, ("all", (LEAF, END))))), False)
        one = ("step", (1, 1), (((1, 2), LEAF), ((1, 3), END)))
        other = ("step", (1, 1), (((1, 2), END), ((1, 3), LEAF)))
        self.assertIs(are_rearranged(one, other), False)

    def test_errors_in_sequence(self):
        for value in WRONG + ODD:
            if not is_term(value):
                for one, other in ((value, END), (END, value), (value, "second")):
                    with self.assertRaises(BadTerm) as caught:
                        are_rearranged(one, other)
                    self.assertIs(caught.exception.value, value)


if __name__ == "__main__":
    unittest.main()
