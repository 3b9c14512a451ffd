import random
import unittest

from onenumber.errors import BadTerm, NoFrame
from onenumber.frames import is_ring
from onenumber.ladderpapers import is_paper, paper
from onenumber.numbers import ladder_of, ladders_of_parts
from onenumber.terms import is_term, parts
from tests.values import END, HALF, LEAF, ODD, near, random_framed_term

LATE = ("step", (1, 1), ((HALF, ("step", (9, 1), ())),))
UNFRAMED = ("all", (("step", (1, 1), ((HALF, END),)), ("step", (-2, 1), (((2, 1), END),))))


class Papers(unittest.TestCase):
    def test_ladders_of_the_parts(self):
        source = random.Random(111)
        for _ in range(150):
            term = random_framed_term(source)
            self.assertEqual(paper(term), [ladder_of(part) for part in parts(term)])
            self.assertIs(is_paper(term, paper(term)), True)

    def test_small_ones(self):
        self.assertEqual(paper(END), [()])
        self.assertEqual(paper(("all", (END, LEAF))), [(((1, 1), (1, 1)),), (), (((1, 1), (1, 1)),)])
        toss = ("step", (0, 1), ((HALF, LATE), (HALF, END)))
        self.assertEqual(paper(toss), [(((11, 4), HALF),), (((11, 2), (1, 1)),), (((9, 1), (1, 1)),), ()])

    def test_papers_near_to_the_right_one(self):
        for term in (LATE, END, ("all", (END, LEAF)), ("step", (0, 1), ((HALF, LATE), (HALF, LEAF)))):
            right = paper(term)
            for value in near(right):
                self.assertIs(is_paper(term, value), False, (term, value))
            self.assertIs(is_paper(term, list(right)), True)

    def test_truths_are_no_numbers(self):
        self.assertIs(is_paper(LEAF, [(((1, 1), (1, 1)),)]), True)
        self.assertIs(is_paper(LEAF, [(((True, 1), (1, 1)),)]), False)
        self.assertIs(is_paper(LEAF, [(((1, 1), (1, True)),)]), False)

    def test_each_ladder_must_follow(self):
        # These are ladders, all of them, but one does not come of the one beneath.
        self.assertIs(is_paper(LATE, [(((11, 2), (1, 1)),), (((9, 1), (1, 1)),)]), True)
        self.assertIs(is_paper(LATE, [(((11, 2), (1, 1)),), (((8, 1), (1, 1)),)]), False)
        self.assertIs(is_paper(LATE, [(((5, 1), (1, 1)),), (((8, 1), (1, 1)),)]), False)

    def test_any_value(self):
        for value in ODD:
            self.assertIs(is_paper(LATE, value), False)
            self.assertIs(is_paper(END, value), False)
            self.assertIs(is_paper(END, [value]), value == ())

    def test_no_paper_without_a_frame(self):
        worked_out_all_the_same = ladders_of_parts(UNFRAMED)
        for value in ([], [()], [(), (), (), (), ()], None, [(((1, 1), HALF),)] * 5, worked_out_all_the_same):
            self.assertIs(is_paper(UNFRAMED, value), False)
        with self.assertRaises(NoFrame) as caught:
            paper(UNFRAMED)
        self.assertTrue(is_ring([((1, 1), HALF), ((-2, 1), (-1, 1))], caught.exception.value))

    def test_values_that_are_no_terms(self):
        for value in ODD:
            if not is_term(value):
                for call in (lambda: paper(value), lambda: is_paper(value, [()])):
                    with self.assertRaises(BadTerm) as caught:
                        call()
                    self.assertIs(caught.exception.value, value)


if __name__ == "__main__":
    unittest.main()
