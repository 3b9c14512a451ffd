"""The examples of the document, as they stand there."""

import unittest

from onenumber.algebra import blend, glue, side_by_side
from onenumber.amounts import compare, fraction, minus, over
from onenumber.errors import BadText
from onenumber.frames import is_ring, is_witness, ring, witness
from onenumber.ladders import chain, is_ladder, left, pays
from onenumber.pairs import are_level, is_ahead, spread, total
from onenumber.places import after, front, histories, places, step_places
from onenumber.terms import is_toss, pair_of, parts, steps
from onenumber.termtexts import format_term, parse_term

good, slow, join = ((4, 1), (1, 2)), ((1, 1), (1, 2)), ((-1, 1), (-1, 1))
work, filt = ((1, 1), (1, 2)), ((-1, 10), (1, 2))
tree = ("step", (3, 1), (((1, 2), ("end",)), ((1, 4), ("step", (-1, 1), ()))))
two = (((4, 1), (1, 2)), ((1, 2), (1, 2)))


class Examples(unittest.TestCase):
    def test_amounts(self):
        self.assertEqual(repr([fraction(6, -4), minus((1, 2), (1, 3)), over((3, 2), (-1, 2)), compare((1, 3), (2, 7))]),
                         "[(-3, 2), (1, 6), (-3, 1), 1]")

    def test_pairs(self):
        told = [is_ahead(good, slow), is_ahead(slow, good), are_level(slow, spread(slow, (3, 1))), total([good, join])]
        self.assertEqual(repr(told), "[True, False, True, ((3, 1), (-1, 2))]")

    def test_frames(self):
        three = [join, work, ((-1, 1), (1, 1))]
        self.assertEqual([ring([work, filt]), witness([join, work, filt]), is_ring(three, ring(three))], [None, None, True])
        told = [is_witness([work, filt], ((0, 1), (1, 1))),
                is_ring([work, ((-2, 1), (-1, 1))], ((0, (2, 1)), (1, (1, 1))))]
        self.assertEqual(told, [True, True])

    def test_terms(self):
        toss = ("step", (0, 1), (((1, 1), ("end",)),))
        told = [len(parts(tree)), len(steps(tree)), pair_of(tree), is_toss(toss)]
        self.assertEqual(repr(told), "[3, 2, ((3, 1), (1, 4)), True]")

    def test_places(self):
        told = [places(tree), step_places(tree), front((("all", (tree, ("end",))), ("end",)))]
        self.assertEqual(repr(told), "[[(), (0,), (1,)], [(), (1,)], [(0, 0)]]")
        self.assertEqual(repr(after((tree,), (0,))),
                         "[((1, 2), (('end',),)), ((1, 4), (('step', (-1, 1), ()),))]")
        self.assertEqual(repr(histories(tree)), "[((((), 0),), (1, 2)), ((((), 1), ((1,), None)), (0, 1))]")

    def test_termtexts(self):
        self.assertEqual(format_term(tree), "step 3 ( 1/2 end 1/4 step -1 ( ) )")
        self.assertEqual(repr(parse_term("all ( end end )")), "('all', (('end',), ('end',)))")
        with self.assertRaises(BadText) as caught:
            parse_term("step 3 ( 2/4 end )")
        self.assertEqual(caught.exception.value, 3)

    def test_ladders(self):
        told = [is_ladder(two), is_ladder(two[::-1]), pays(two), left(two)]
        self.assertEqual(repr(told), "[True, False, (9, 2), [(1, 2), (0, 1)]]")
        self.assertEqual(repr(chain(two)), "('step', (4, 1), (((1, 2), ('step', (1, 1), ())),))")

    def test_algebra(self):
        told = [glue(((1, 1), (1, 2)), [((9, 2), (1, 2))]), glue(((1, 1), (1, 2)), [((1, 2), (1, 2))])]
        self.assertEqual(repr(told), "[(((11, 2), (1, 1)),), (((1, 1), (1, 2)), ((1, 2), (1, 2)))]")
        told = [side_by_side([two, (((1, 1), (1, 2)),)]), blend([((1, 2), two), ((1, 2), ())])]
        self.assertEqual(repr(told), "[(((4, 1), (1, 2)), ((1, 2), (1, 4)), ((1, 4), (1, 4))), "
                                     "(((2, 1), (1, 4)), ((1, 4), (1, 4)))]")


if __name__ == "__main__":
    unittest.main()
