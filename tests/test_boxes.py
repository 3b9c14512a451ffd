import random
from fractions import Fraction
from itertools import product

from onenumber.boxes import best_moves, box_term, boxes_worth, is_box, is_boxes, reserve, worth_of
from onenumber.errors import BadBox, BadBoxes, BadSeen
from onenumber.terms import is_term
from onenumber.worths import worth
from tests.values import HALF, ODD, ONE, ZERO, Case, as_amount, as_fraction, near

FIRST = (ONE, ((HALF, (6, 1)), (HALF, ZERO)))
SECOND = (ONE, (((1, 4), (8, 1)), ((3, 4), (2, 1))))
FREE = (ZERO, ((HALF, (4, 1)), (HALF, ONE)))
DEAR = ((9, 1), ((ONE, (4, 1)),))


def random_box(source):
    count = source.randint(1, 3)
    parts = [source.randint(1, 4) for _ in range(count)]
    prizes = [(as_amount(Fraction(part, sum(parts))), as_amount(Fraction(source.randint(0, 6), source.randint(1, 2))))
              for part in parts]
    return (as_amount(Fraction(source.randint(0, 6), source.randint(1, 3))), tuple(prizes))


def random_boxes(source, most=3):
    return tuple([random_box(source) for _ in range(source.randint(1, most))])


def values_of_moves(boxes, seen):
    """Each move and the mean of what is to come by it, over all that may be seen then."""
    found = {("leave",): Fraction(0)}
    for number, (price, prizes) in enumerate(boxes):
        if seen[number] is not None:
            found[("take", number)] = as_fraction(prizes[seen[number]][1])
        else:
            value = -as_fraction(price)
            for prize, (chance, _) in enumerate(prizes):
                behind = tuple([prize if other == number else entry for other, entry in enumerate(seen)])
                value += as_fraction(chance) * max(values_of_moves(boxes, behind).values())
            found[("open", number)] = value
    return found


def all_seen(boxes):
    return product(*[[None] + list(range(len(prizes))) for _, prizes in boxes])


class Boxes(Case):
    def test_what_is_a_box(self):
        right = [FIRST, SECOND, FREE, DEAR, (ZERO, ((ONE, ZERO),)), (ONE, (((1, 3), ZERO),) * 3)]
        wrong = [((-1, 2), FIRST[1]), (ONE, ()), (ONE, (((1, 4), ONE),) * 4), (ONE, ((HALF, ONE),)), (ONE, ((HALF, ONE),) * 3),
                 (ONE, ((ONE, (-1, 2)),)), (ONE, ((ZERO, ONE), (ONE, ONE))), (ONE, (((3, 2), ONE), ((-1, 2), ONE))),
                 (ONE, [(ONE, ONE)]), [ONE, ((ONE, ONE),)], (ONE, ([ONE, ONE],)), (ONE, ((ONE, ONE, ONE),)), (ONE, ((ONE,),)),
                 (ONE, ((ONE, ONE),), ()), (ONE,), (1, ((ONE, ONE),)), (ONE, (((True, 1), ONE),)), ((True, 1), ((ONE, ONE),)),
                 (ONE, ((ONE, (True, 1)),)), (ONE, ((ONE, 1),)), (ONE, (((2, 2), ONE),)), (ONE, ONE), (FIRST,)]
        self.judges(is_box, right, wrong + ODD)
        for value in near(FIRST):
            if is_box(value):
                self.assertEqual(sum([as_fraction(chance) for chance, _ in value[1]]), 1)
                self.assertGreaterEqual(min([value[0][0]] + [amount[0] for _, amount in value[1]]), 0)

    def test_what_boxes_are(self):
        right = [(FIRST,), (FIRST, SECOND), (FIRST, FIRST, DEAR)]
        wrong = [(), (FIRST,) * 4, FIRST, [FIRST], (FIRST, None), (FIRST, list(SECOND)), ((FIRST,),), (FIRST, ())]
        self.judges(is_boxes, right, wrong + ODD)
        for value in near((FIRST, FREE)):
            self.assertIs(is_boxes(value), isinstance(value, tuple) and 0 < len(value) < 4 and all(map(is_box, value)))

    def test_terms(self):
        self.assertEqual(box_term(FIRST), ("step", (-1, 1), ((HALF, ("step", (6, 1), ())), (HALF, ("step", ZERO, ())))))
        self.assertEqual(box_term(DEAR), ("step", (-9, 1), ((ONE, ("step", (4, 1), ())),)))
        self.assertEqual(box_term(FREE)[1], ZERO)
        source = random.Random(231)
        for _ in range(50):
            self.assertTrue(is_term(box_term(random_box(source))))

    def test_worths(self):
        self.assertEqual([boxes_worth((box,)) for box in (FIRST, SECOND, FREE, DEAR)], [(2, 1), (5, 2), (5, 2), ZERO])
        source = random.Random(232)
        for _ in range(80):
            boxes = random_boxes(source)
            best = max(values_of_moves(boxes, (None,) * len(boxes)).values())
            self.assertEqual(boxes_worth(boxes), as_amount(best))
            # The fact: it is the worth of the terms by "free".
            self.assertEqual(worth(tuple([box_term(box) for box in boxes]), "free"), as_amount(best))

    def test_moves_at_all_that_may_have_been_seen(self):
        source = random.Random(233)
        for _ in range(25):
            boxes = random_boxes(source)
            for seen in all_seen(boxes):
                values = values_of_moves(boxes, seen)
                best = max(values.values())
                self.assertEqual(worth_of(boxes, seen), as_amount(best))
                self.assertEqual(best_moves(boxes, seen), sorted([move for move in values if values[move] == best]))

    def test_small_moves(self):
        self.assertEqual(best_moves((DEAR,), (None,)), [("leave",)])
        # A prize of nothing, and leaving, gain nothing; so does opening a box at just its mean.
        self.assertEqual(best_moves((FIRST, DEAR), (1, None)), [("leave",), ("take", 0)])
        self.assertEqual(best_moves((((4, 1), ((ONE, (4, 1)),)),), (None,)), [("leave",), ("open", 0)])
        self.assertEqual(best_moves(((ZERO, ((ONE, ZERO),)),), (None,)), [("leave",), ("open", 0)])
        self.assertEqual(best_moves((FREE, FREE, FREE), (0, None, 0)), [("open", 1), ("take", 0), ("take", 2)])
        self.assertEqual(worth_of((FREE, DEAR), (1, 0)), (4, 1))
        self.assertEqual(best_moves((FREE, DEAR), (1, 0)), [("take", 1)])

    def test_reserves(self):
        self.assertEqual([reserve(box) for box in (FIRST, SECOND, FREE, DEAR)], [(4, 1), (4, 1), (4, 1), (-5, 1)])
        self.assertEqual(reserve((ZERO, (((1, 3), ONE), ((1, 3), (7, 2)), ((1, 3), (7, 2))))), (7, 2))
        self.assertEqual(reserve(((5, 1), ((HALF, (4, 1)), (HALF, (2, 1))))), (-2, 1))
        source = random.Random(234)
        below = 0
        for _ in range(300):
            price, prizes = random_box(source)
            mark = as_fraction(reserve((price, prizes)))
            gained = sum([as_fraction(chance) * max(as_fraction(value) - mark, 0) for chance, value in prizes])
            self.assertEqual(gained, as_fraction(price))
            if price == ZERO:
                self.assertEqual(mark, max([as_fraction(value) for _, value in prizes]))
            below += mark < 0
        self.assertGreater(below, 20)

    def test_the_fact_of_reserves(self):
        source = random.Random(235)
        opened = taken = 0
        for _ in range(40):
            boxes = random_boxes(source)
            for seen in all_seen(boxes):
                moves = best_moves(boxes, seen)
                marks = {number: as_fraction(reserve(box)) for number, box in enumerate(boxes) if seen[number] is None}
                values = {number: as_fraction(boxes[number][1][prize][1]) for number, prize in enumerate(seen) if prize is not None}
                most = max(marks, key=lambda number: marks[number], default=None)
                highest = max(values.values(), default=0)
                if most is not None and marks[most] > max(highest, 0):
                    self.assertIn(("open", most), moves)
                    opened += 1
                elif highest > 0:
                    self.assertIn(("take", [number for number in values if values[number] == highest][0]), moves)
                    taken += 1
                else:
                    self.assertIn(("leave",), moves)
        self.assertGreater(min(opened, taken), 50)

    def test_each_call_gives_a_new_list(self):
        told = best_moves((FIRST,), (None,))
        told.append(1)
        self.assertEqual(best_moves((FIRST,), (None,)), [("open", 0)])


class Errors(Case):
    def test_values_that_are_no_boxes(self):
        for function in (box_term, reserve):
            self.refuses(BadBox, function, [value for value in ODD + near(FIRST) + [(FIRST,)] if not is_box(value)])
        wrong = [value for value in ODD + near((FIRST, FREE)) + [FIRST, (), (FIRST,) * 4] if not is_boxes(value)]
        self.refuses(BadBoxes, boxes_worth, wrong)
        for function in (best_moves, worth_of):
            self.refuses(BadBoxes, function, wrong, behind=("seen",))

    def test_values_that_tell_of_no_boxes(self):
        wrong = ODD + near((1, None)) + [(None,), (None,) * 3, (0, 2), (-1, 0), [None, None], (0, False), (True, None), (0, "1"),
                                         ((0,), None), (0, 1, None), (3, 0)]
        for function in (best_moves, worth_of):
            for value in wrong:
                right = isinstance(value, tuple) and len(value) == 2
                right = right and all([entry is None or not isinstance(entry, bool) and entry in (0, 1) for entry in value])
                if not right:
                    self.refuses(BadSeen, function, [value], ahead=((FIRST, SECOND),))
        # A box with one prize alone has no second one.
        self.refuses(BadSeen, worth_of, [(1, 0), (0, 2)], ahead=((DEAR, FIRST),))
