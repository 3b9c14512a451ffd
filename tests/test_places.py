import itertools
import random
import unittest
from fractions import Fraction

from onenumber.errors import BadMix, BadPlace, BadTerm, TooMany
from onenumber.places import after, count_histories, front, histories, places, put_at, step_places, term_at
from onenumber.terms import is_mix, is_term, parts, steps
from tests.values import (
    END, HALF, LEAF, ODD, ONE, ZERO, as_amount, as_fraction, deep_step, nested, random_term,
)

TREE = ("step", (3, 1), ((HALF, END), ((1, 4), ("step", (-1, 1), ()))))
SURE = ("step", (3, 1), ((ONE, END),))
BOTH = ("all", (TREE, END, ("all", (LEAF, SURE))))
NO_PATHS = [None, True, 0, "", "0", [], [0], {}, {0: 1}, (True,), (False,), ("0",), (None,), ((0,),), (0, True), (-1,), (0, -1)]


def within(term):
    return [inner for _, inner in term[2]] if term[0] == "step" else list(term[1]) if term[0] == "all" else []


def all_places(term):
    """By [9], with recursion."""
    return [()] + [(number,) + rest for number, inner in enumerate(within(term)) for rest in all_places(inner)]


def walk(term, place):
    for number in place:
        term = within(term)[number]
    return term


def histories_by_choices(term):
    """By [10]: all ways of choosing an outcome for each step, and what comes about by them."""
    spots = [place for place in all_places(term) if walk(term, place)[0] == "step"]
    outcomes = [range(len(walk(term, spot)[2])) if walk(term, spot)[2] else [None] for spot in spots]
    found = {}
    for choice in itertools.product(*outcomes):
        chosen = dict(zip(spots, choice))
        told, weight = [], Fraction(1)
        for spot in spots:
            ahead = [other for other in spots if other == spot[:len(other)] and other != spot]
            if all([chosen[other] == spot[len(other)] for other in ahead]):
                told.append((spot, chosen[spot]))
                weight *= 0 if chosen[spot] is None else as_fraction(walk(term, spot)[2][chosen[spot]][0])
        found[tuple(told)] = as_amount(weight)
    return sorted(found.items())


class Places(unittest.TestCase):
    def test_ordinary(self):
        self.assertEqual(places(END), [()])
        self.assertEqual(step_places(END), [])
        self.assertEqual(places(TREE), [(), (0,), (1,)])
        self.assertEqual(step_places(TREE), [(), (1,)])
        self.assertEqual(places(BOTH), [(), (0,), (0, 0), (0, 1), (1,), (2,), (2, 0), (2, 1), (2, 1, 0)])
        self.assertEqual(step_places(BOTH), [(0,), (0, 1), (2, 0), (2, 1)])

    def test_random_terms(self):
        source = random.Random(18)
        for _ in range(300):
            term = random_term(source)
            self.assertEqual(places(term), all_places(term))
            self.assertEqual(places(term), sorted(places(term)))
            self.assertEqual([term_at(term, place) for place in places(term)], parts(term))
            self.assertEqual([term_at(term, place) for place in step_places(term)], steps(term))

    def test_no_places(self):
        for place in NO_PATHS + [(2,), (0, 0), (1, 0), (10 ** 5000,), nested(tuple, 200), (0,) * 50000]:
            for function, more in ((term_at, ()), (put_at, (END,)), (put_at, ("no term",))):
                with self.assertRaises(BadPlace) as caught:
                    function(TREE, place, *more)
                self.assertIs(caught.exception.value, place)
        with self.assertRaises(BadPlace):
            term_at(END, (0,))
        with self.assertRaises(BadPlace):
            term_at(("all", (END, END)), (2,))

    def test_errors_in_sequence(self):
        for value in ODD:
            if not is_term(value):
                for function, more in ((places, ()), (step_places, ()), (term_at, ("no place",)), (term_at, ((),)),
                                       (put_at, ("no place", "no term")), (put_at, ((), END))):
                    with self.assertRaises(BadTerm) as caught:
                        function(value, *more)
                    self.assertIs(caught.exception.value, value)
                with self.assertRaises(BadTerm) as caught:
                    put_at(TREE, (1,), value)
                self.assertIs(caught.exception.value, value)

    def test_any_place(self):
        for value in ODD:
            if value != ():
                with self.assertRaises(BadPlace) as caught:
                    term_at(END, value)
                self.assertIs(caught.exception.value, value)


class Putting(unittest.TestCase):
    def test_ordinary(self):
        self.assertEqual(put_at(TREE, (), END), END)
        self.assertEqual(put_at(TREE, (0,), LEAF), ("step", (3, 1), ((HALF, LEAF), ((1, 4), ("step", (-1, 1), ())))))
        self.assertEqual(put_at(BOTH, (2, 1, 0), TREE),
                         ("all", (TREE, END, ("all", (LEAF, ("step", (3, 1), ((ONE, TREE),)))))))

    def test_random_terms(self):
        source = random.Random(19)
        for _ in range(300):
            term, other = random_term(source, 16), random_term(source, 16)
            for place in places(term):
                try:
                    result = put_at(term, place, other)
                except BadTerm as error:
                    self.assertIs(is_term(error.value), False)
                    result = error.value
                self.assertEqual(walk(result, place), other)
                for spot in all_places(term):
                    if spot[:len(place)] != place:
                        self.assertEqual(walk(result, spot)[0], walk(term, spot)[0])
                        self.assertEqual(len(within(walk(result, spot))), len(within(walk(term, spot))))

    def test_too_many_steps(self):
        chain = deep_step(15, ((HALF, END),))
        spot = (0,) * 15
        self.assertEqual(put_at(chain, spot, LEAF), deep_step(16))
        with self.assertRaises(BadTerm) as caught:
            put_at(chain, spot, deep_step(2))
        self.assertEqual(caught.exception.value, deep_step(17))
        # Fewer steps go there as well.
        self.assertEqual(put_at(deep_step(16), (0,) * 15, END), chain)

    def test_too_many_parts(self):
        term = END
        for _ in range(23):
            term = ("all", (END, term))
        self.assertEqual(len(parts(put_at(term, (0,), SURE))), 48)
        with self.assertRaises(BadTerm) as caught:
            put_at(term, (0,), ("all", (END, END)))
        self.assertEqual(caught.exception.value, ("all", (("all", (END, END)), term[1][1])))
        with self.assertRaises(BadTerm) as caught:
            put_at(term, (0,), ("all", [END, END]))
        self.assertEqual(caught.exception.value, ("all", [END, END]))


class Fronts(unittest.TestCase):
    def test_front(self):
        self.assertEqual(front((END,)), [])
        self.assertEqual(front((LEAF, END, TREE)), [(0,), (2,)])
        self.assertEqual(front((BOTH, TREE)), [(0, 0), (0, 2, 0), (0, 2, 1), (1,)])
        self.assertEqual(front((("all", (TREE, END)), END)), [(0, 0)])

    def test_after(self):
        self.assertEqual(after((TREE,), (0,)), [(HALF, (END,)), ((1, 4), (("step", (-1, 1), ()),))])
        self.assertEqual(after((LEAF, TREE), (0,)), [])
        rest = ("all", (LEAF, END))
        self.assertEqual(after((END, BOTH), (1, 2, 1)), [(ONE, (END, ("all", (TREE, END, rest))))])

    def test_random_mixes(self):
        source = random.Random(20)
        for _ in range(200):
            mix = tuple([random_term(source, 12) for _ in range(source.randint(1, 4))])
            if not is_mix(mix):
                continue
            wanted = []
            for number, term in enumerate(mix):
                for place in all_places(term):
                    above = [walk(term, place[:count])[0] for count in range(len(place))]
                    if walk(term, place)[0] == "step" and "step" not in above:
                        wanted.append((number,) + place)
            self.assertEqual(front(mix), wanted)
            for place in wanted:
                step = walk(mix[place[0]], place[1:])
                behind = after(mix, place)
                self.assertEqual([weight for weight, _ in behind], [weight for weight, _ in step[2]])
                for (_, state), (_, inner) in zip(behind, step[2]):
                    self.assertIs(is_mix(state), True)
                    self.assertEqual(walk(state[place[0]], place[1:]), inner)
                    for other in wanted:
                        if other != place:
                            self.assertEqual(walk(state[other[0]], other[1:]), walk(mix[other[0]], other[1:]))

    def test_errors_in_sequence(self):
        for value in ODD:
            if not is_mix(value):
                for function, more in ((front, ()), (after, ((0,),)), (after, ("no place",))):
                    with self.assertRaises(BadMix) as caught:
                        function(value, *more)
                    self.assertIs(caught.exception.value, value)
        mix = (TREE, END, ("all", (LEAF, END)))
        self.assertEqual(front(mix), [(0,), (2, 0)])
        for place in ODD + NO_PATHS + [(0, 1), (1,), (2, 1), (2,), (3,), (0, 0), (2, 0, 0), (), [0], [2, 0], (2, False)]:
            with self.assertRaises(BadPlace) as caught:
                after(mix, place)
            self.assertIs(caught.exception.value, place)


class Histories(unittest.TestCase):
    def test_ordinary(self):
        self.assertEqual(histories(END), [((), ONE)])
        self.assertEqual(histories(LEAF), [((((), None),), ZERO)])
        self.assertEqual(histories(TREE), [((((), 0),), HALF), ((((), 1), ((1,), None)), ZERO)])
        self.assertEqual(histories(("step", (1, 1), (((2, 1), SURE),))), [((((), 0), ((0,), 0)), (2, 1))])

    def test_beside_a_step_without_outcomes(self):
        beside = ("all", (LEAF, TREE))
        self.assertEqual(histories(beside), [
            ((((0,), None), ((1,), 0)), ZERO), ((((0,), None), ((1,), 1), ((1, 1), None)), ZERO)])

    def test_random_terms(self):
        source = random.Random(21)
        for _ in range(200):
            term = random_term(source, 18)
            if len(steps(term)) > 8:
                continue
            told = histories_by_choices(term)
            self.assertEqual(count_histories(term), len(told))
            if len(told) <= 400:
                self.assertEqual(histories(term), told)
                self.assertIsNot(histories(term), histories(term))

    def test_four_hundred(self):
        def fork(count):
            return ("step", (0, 1), (((1, count), END),) * count)
        twenty = ("step", ONE, ((ONE, ("all", (fork(3), fork(3)))), (ONE, ("all", (fork(3), fork(3)))), (ONE, fork(2))))
        self.assertEqual(count_histories(twenty), 20)
        self.assertEqual(len(parts(twenty)), 22)
        ten = ("step", ONE, ((ONE, ("all", (fork(3), fork(3)))), (ONE, END)))
        self.assertEqual(count_histories(ten), 10)
        forty = ("all", (ten, fork(2), fork(2)))
        self.assertEqual(count_histories(forty), 40)
        hundred = ("all", (ten, ten))
        four = ("all", (ten, ("all", (fork(2), fork(2))), ten))
        self.assertEqual([count_histories(hundred), count_histories(four)], [100, 400])
        self.assertEqual(len(histories(four)), 400)
        self.assertEqual(histories(four), sorted(histories(four)))
        more = ("step", ONE, ((ONE, four), (ONE, END)))
        self.assertEqual(count_histories(more), 401)
        with self.assertRaises(TooMany) as caught:
            histories(more)
        self.assertEqual(caught.exception.value, 400)

    def test_many_more(self):
        forks = ("all", (("step", (0, 1), (((1, 3), END),) * 3),) * 3)
        many = ("all", (forks, forks, forks))
        self.assertEqual(count_histories(many), 3 ** 9)
        with self.assertRaises(TooMany) as caught:
            histories(many)
        self.assertEqual(caught.exception.value, 400)

    def test_errors(self):
        for value in ODD:
            if not is_term(value):
                for function in (histories, count_histories):
                    with self.assertRaises(BadTerm) as caught:
                        function(value)
                    self.assertIs(caught.exception.value, value)


if __name__ == "__main__":
    unittest.main()
