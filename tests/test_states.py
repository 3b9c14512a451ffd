import random
import unittest

from onenumber.errors import BadMix, TooMany
from onenumber.places import after, front
from onenumber.states import size, states
from onenumber.terms import is_mix
from tests.values import END, HALF, LEAF, ODD, ONE, deep_step, outcome_of, random_term

SURE = ("step", (3, 1), ((ONE, END),))
TWO = ("step", (1, 1), ((HALF, END), (HALF, LEAF)))
# Terms of the sizes 2, 5 and 40.
FIVE = ("step", (1, 1), ((HALF, SURE), ((1, 3), ("all", (END, SURE)))))
FORTY = ("all", (FIVE, ("all", (SURE, SURE, SURE))))


def states_one_by_one(mix):
    """The states as the document tells them."""
    told = [mix]
    for state in told:
        for place in front(state):
            for _, behind in after(state, place):
                if behind not in told:
                    told.append(behind)
    return told


class States(unittest.TestCase):
    def test_sizes(self):
        self.assertEqual([size((term,)) for term in (END, LEAF, SURE, TWO, FIVE, FORTY)], [1, 1, 2, 3, 5, 40])
        self.assertEqual(size((FIVE, END, TWO)), 15)
        self.assertEqual(size((("all", (LEAF, END, LEAF)),)), 1)
        self.assertEqual(size((("step", (1, 1), ((HALF, ("all", (TWO, TWO))),)), TWO)), 30)

    def test_sizes_of_large_mixes(self):
        wide = ("step", (1, 1), ((HALF, END),) * 3)
        mix = (("all", (wide, wide, wide)), ("all", (wide, wide, wide)), ("all", (wide, wide, wide)))
        self.assertEqual(size(mix), 4 ** 9)
        self.assertEqual(size((deep_step(16),)), 16)
        self.assertEqual(outcome_of(states, mix), ("raised", "TooMany", 400))

    def test_states_in_their_sequence(self):
        self.assertEqual(states((TWO,)), [(TWO,), (END,), (LEAF,)])
        self.assertEqual(states((SURE, TWO)), [(SURE, TWO), (END, TWO), (SURE, END), (SURE, LEAF), (END, END), (END, LEAF)])
        self.assertEqual(states((END,)), [(END,)])
        self.assertEqual(states((LEAF, LEAF)), [(LEAF, LEAF)])

    def test_equal_states_are_told_once(self):
        twice = ("step", (1, 1), ((HALF, SURE), ((1, 3), SURE)))
        self.assertEqual(states((twice,)), [(twice,), (SURE,), (END,)])
        # Fractions are a part of a state, and terms in another sequence are another state.
        unlike = ("step", (1, 1), ((HALF, SURE), (HALF, ("step", (4, 1), ((ONE, END),)))))
        self.assertEqual(len(states((unlike,))), 4)
        self.assertEqual(len(states((SURE, SURE))), 4)

    def test_random_mixes(self):
        source = random.Random(141)
        for _ in range(300):
            mix = tuple([random_term(source, 14) for _ in range(source.randint(1, 3))])
            if is_mix(mix) and size(mix) <= 400:
                told = states(mix)
                self.assertEqual(told, states_one_by_one(mix))
                self.assertLessEqual(len(told), size(mix))

    def test_deeply_nested_states(self):
        self.assertEqual(len(states((deep_step(16),))), 16)

    def test_the_limit_is_of_sizes(self):
        at_limit = (FORTY, FIVE, SURE)
        self.assertEqual(size(at_limit), 400)
        self.assertEqual(states(at_limit)[0], at_limit)
        # The size counts, not how many states there are.
        for mix in ((FORTY, FIVE, TWO), (FORTY, FIVE, ("step", (1, 1), ((HALF, SURE),)))):
            self.assertGreater(size(mix), 400)
            with self.assertRaises(TooMany) as caught:
                states(mix)
            self.assertEqual(caught.exception.value, 400)
        same = ("step", (1, 1), ((HALF, SURE), ((1, 3), SURE), ((1, 5), SURE)))
        self.assertEqual(outcome_of(states, (same, same, same, TWO)), ("raised", "TooMany", 400))

    def test_values_that_are_no_mixes(self):
        for value in ODD:
            if not is_mix(value):
                for function in (size, states):
                    with self.assertRaises(BadMix) as caught:
                        function(value)
                    self.assertIs(caught.exception.value, value)


if __name__ == "__main__":
    unittest.main()
