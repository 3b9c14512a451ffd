import random
from fractions import Fraction

from onenumber.companies import goes_with
from onenumber.days import Day
from onenumber.errors import (
    BadHabit,
    BadMark,
    BadMix,
    BadNumber,
    BadOutcome,
    BadPlace,
    BadTerm,
    DayOver,
    NoDeed,
    NoFrame,
    TooMany,
)
from onenumber.floors import best_steps
from onenumber.frames import is_ring
from onenumber.ladders import chain
from onenumber.numbers import ladder_of
from onenumber.places import after, front, put_at, term_at
from onenumber.rules import rule_step, rule_walk
from onenumber.states import size
from onenumber.terms import is_mix, is_term, pairs_of, steps
from onenumber.worths import worth
from tests.dayvalues import AMOUNTS, all_of, random_day, random_deed, seen, undone
from tests.values import (
    END,
    HALF,
    LEAF,
    NOTHING,
    ODD,
    ONE,
    ZERO,
    Case,
    as_amount,
    as_fraction,
    outcome_of,
    random_fitting_mix,
    random_framed_term,
    random_term,
)

HABITS = ("done", "free")
WORK = ("step", (2, 1), ((HALF, ("step", (4, 1), ())),))
SURE = ("step", (3, 1), ((ONE, END),))
TOSS = ("step", ZERO, ((HALF, SURE), (HALF, END)))
COSTS = ("step", (-1, 1), ((HALF, LEAF),))
AGAINST = ("step", (-2, 1), (((2, 1), END),))
UNLIKE = (("step", ONE, ((HALF, END),)), AGAINST)
BARE = ("all", (END, ("all", (END, END))))
LEAVING = ((0, 1), (1, 1))


class Model:
    """A day as the document tells it, with amounts as fractions; worths are those of onenumber.worths."""

    def __init__(self, mix, habit):
        self.mix, self.habit, self.weight, self.left = mix, habit, Fraction(1), False
        self.paid = self.passed = self.lost = self.changed = Fraction(0)
        self.first = self.to_come()

    def is_over(self):
        return self.left or self.weight == 0

    def to_come(self):
        return Fraction(0) if self.is_over() else self.weight * as_fraction(worth(self.mix, self.habit))

    def do(self, place, outcome):
        step = term_at(self.mix[place[0]], place[1:])
        ahead = self.to_come()
        shares = [self.weight * as_fraction(weight) * as_fraction(worth(mix, self.habit))
                  for weight, mix in after(self.mix, place)]
        self.lost += ahead - self.weight * as_fraction(step[1]) - sum(shares)
        self.paid += self.weight * as_fraction(step[1])
        if outcome is None:
            self.weight = Fraction(0)
            self.mix = put(self.mix, place, END)
        else:
            self.passed += sum(shares[:outcome] + shares[outcome + 1:])
            weight, self.mix = after(self.mix, place)[outcome]
            self.weight *= as_fraction(weight)

    def change(self, mix, habit):
        ahead = self.to_come()
        self.mix, self.habit = mix, habit
        self.changed += self.to_come() - ahead

    def take(self, deed):
        kind = deed[0]
        if kind == "do":
            self.do(deed[1], deed[2])
        elif kind == "come":
            bare = [number for number, term in enumerate(self.mix) if not steps(term)]
            number = bare[0] if bare else len(self.mix)
            self.change(self.mix[:number] + (deed[1],) + self.mix[number + 1:], self.habit)
        elif kind == "go":
            self.change(self.mix[:deed[1]] + (END,) + self.mix[deed[1] + 1:], self.habit)
        elif kind == "put":
            self.change(self.mix[:deed[1]] + (deed[2],) + self.mix[deed[1] + 1:], self.habit)
        elif kind == "habit":
            self.change(self.mix, deed[1])
        else:
            self.lost += self.to_come()
            self.left = True


def put(mix, place, term):
    return mix[:place[0]] + (put_at(mix[place[0]], place[1:], term),) + mix[place[0] + 1:]


def modelled(mix, habit, deeds):
    model = Model(mix, habit)
    for deed in deeds:
        model.take(deed)
    return model


class Beginnings(Case):
    def test_at_first(self):
        day = Day((WORK, SURE))
        self.assertEqual([getattr(day, name) for name in AMOUNTS],
                         [(WORK, SURE), "done", ONE, ZERO, ZERO, ZERO, ZERO, (7, 1), (7, 1), False])
        self.assertEqual(day.deeds(), [])
        self.assertEqual([Day((COSTS,)).first, Day((COSTS,), habit="free").first], [(-1, 2), ZERO])
        # No step is left, but the day is not over.
        self.assertIs(Day((END,)).is_over, False)
        self.assertEqual([Day((END,)).losses(), Day((END,), habit="free").losses()], [[], [(None, ZERO)]])
        self.assertEqual([Day((END,)).best(), Day((END,), habit="free").best()], [[], [None]])

    def test_arguments(self):
        self.assertEqual(Day(mix=(SURE,), habit="free").habit, "free")
        with self.assertRaises(TypeError):
            Day((SURE,), "free")

    def test_errors(self):
        for value in ODD:
            if not is_mix(value):
                self.assertIs(self.told(BadMix, Day, value, habit="maybe"), value)
            self.assertIs(self.told(BadHabit, Day, UNLIKE, habit=value), value)
        pairs = [pair for term in UNLIKE for pair in pairs_of(term)]
        self.assertTrue(is_ring(pairs, self.told(NoFrame, Day, UNLIKE)))
        down = (("step", ZERO, (((2, 1), END),)),)
        self.assertTrue(is_ring(pairs_of(down[0]) + [LEAVING], self.told(NoFrame, Day, down, habit="free")))
        self.assertIs(Day(down).is_over, False)


class Doing(Case):
    def test_a_step(self):
        day = Day((WORK, SURE))
        self.assertIsNone(day.do((0,), 0))
        self.assertEqual([day.mix, day.weight, day.paid, day.passed, day.lost, day.to_come],
                         [(("step", (4, 1), ()), SURE), HALF, (2, 1), ZERO, (3, 2), (7, 2)])
        day = Day((TOSS, SURE))
        self.assertEqual(day.first, (9, 2))
        day.do(place=(0,), outcome=1)
        self.assertEqual([day.mix, day.passed, day.lost, day.to_come], [(END, SURE), (3, 1), ZERO, (3, 2)])

    def test_a_step_without_outcomes(self):
        day = Day((LEAF, SURE))
        day.do((0,))
        self.assertEqual([day.mix, day.weight, day.paid, day.lost, day.to_come, day.is_over],
                         [(END, SURE), ZERO, ONE, (3, 1), ZERO, True])
        self.assertEqual(day.deeds(), [("do", (0,), None)])
        self.assertEqual([day.losses(), day.best()], [[], []])

    def test_places_and_outcomes_that_are_none(self):
        day = Day((WORK, ("all", (SURE, LEAF)), END))
        for value in ODD + [(0, 0), (2,), (3,), (-1,), [0], (False,), (1,), (1, 2), ("0",), ()]:
            if value not in front(day.mix) or isinstance(value[0], bool):
                self.assertIs(self.told(BadPlace, day.do, value, "x"), value)
        for value in ODD + [1, -1, True, False, None, "0", (0,)]:
            if isinstance(value, bool) or value != 0:
                self.assertIs(self.told(BadOutcome, day.do, (0,), value), value)
            if value is not None:
                self.assertIs(self.told(BadOutcome, day.do, (1, 1), value), value)
        self.assertEqual(day.deeds(), [])
        self.assertIsNone(self.told(BadOutcome, day.do, (0,)))
        day.do((1, 1), None)
        self.assertIs(day.is_over, True)

    def test_losses(self):
        source = random.Random(281)
        for _ in range(60):
            day = random_day(source, 3)
            told = day.losses()
            if day.is_over:
                self.assertEqual([told, day.best()], [[], []])
                continue
            places = [place for place, _ in told]
            self.assertEqual(places, front(day.mix) + ([None] if day.habit == "free" else []))
            self.assertEqual(day.best(), [place for place, loss in told if loss == ZERO])
            for place, loss in told:
                other = day.fork()
                if place is None:
                    self.assertEqual(loss, day.to_come)
                    other.leave()
                else:
                    other.do(place, 0 if term_at(day.mix[place[0]], place[1:])[2] else None)
                self.assertEqual(as_fraction(other.lost) - as_fraction(day.lost), as_fraction(loss))


class Changes(Case):
    def test_come(self):
        day = Day((SURE, BARE, END))
        self.assertEqual([day.come(WORK), day.mix, day.changed], [1, (SURE, WORK, END), (4, 1)])
        self.assertEqual([day.come(term=LEAF), day.mix], [2, (SURE, WORK, LEAF)])
        self.assertEqual([day.come(END), day.mix], [3, (SURE, WORK, LEAF, END)])
        self.assertEqual([day.come(BARE), day.mix], [3, (SURE, WORK, LEAF, BARE)])
        self.assertEqual(day.deeds(), [("come", WORK), ("come", LEAF), ("come", END), ("come", BARE)])

    def test_a_term_that_finds_no_room(self):
        day = Day((SURE,) * 4)
        self.assertEqual(self.told(BadMix, day.come, END), (SURE,) * 4 + (END,))
        wide = ("all", (("all", (SURE,) * 3),) * 3)
        day = Day((wide, SURE))
        # Too many steps: nine, and one, and nine.
        self.assertEqual(self.told(BadMix, day.come, wide), (wide, SURE, wide))
        self.assertEqual(self.told(BadMix, day.put, 1, wide), (wide, wide))
        self.assertEqual([day.mix, day.deeds()], [(wide, SURE), []])
        day.put(0, SURE)
        self.assertEqual(day.come(wide), 2)

    def test_a_term_without_a_frame(self):
        day = Day(UNLIKE[:1], habit="free")
        ring = self.told(NoFrame, day.come, ("step", (-2, 1), (((2, 1), TOSS),)))
        self.assertTrue(is_ring(pairs_of(UNLIKE[0]) + [((-2, 1), (-1, 1)), ((3, 1), ZERO), LEAVING], ring))
        self.assertEqual([day.mix, day.deeds()], [UNLIKE[:1], []])
        day = Day((END, UNLIKE[1]))
        ring = self.told(NoFrame, day.put, 0, UNLIKE[0])
        self.assertTrue(is_ring([pair for term in UNLIKE for pair in pairs_of(term)], ring))

    def test_go_and_put(self):
        day = Day((WORK, SURE))
        self.assertIsNone(day.go(0))
        self.assertEqual([day.mix, day.changed, day.to_come], [(END, SURE), (-4, 1), (3, 1)])
        self.assertIsNone(day.go(number=0))
        self.assertIsNone(day.put(number=1, term=LEAF))
        self.assertEqual([day.mix, day.changed, day.to_come], [(END, LEAF), (-6, 1), ONE])
        self.assertEqual(day.deeds(), [("go", 0), ("go", 0), ("put", 1, LEAF)])
        self.assertEqual([day.term(0), day.term(number=1)], [END, LEAF])

    def test_numbers_and_terms_that_are_none(self):
        day = Day((WORK, SURE))
        for value in ODD + [2, -1, True, False, "0", (0,), None]:
            if isinstance(value, bool) or value not in (0, 1):
                self.refuses(BadNumber, day.go, [value])
                self.refuses(BadNumber, day.term, [value])
                self.refuses(BadNumber, day.put, [value], behind=(None,))
            if not is_term(value):
                self.refuses(BadTerm, day.come, [value])
                self.refuses(BadTerm, day.put, [value], ahead=(0,))
        self.assertEqual(day.deeds(), [])

    def test_habits(self):
        day = Day((COSTS,))
        self.assertIsNone(day.set_habit("free"))
        self.assertEqual([day.habit, day.changed, day.to_come, day.first], ["free", HALF, ZERO, (-1, 2)])
        day.set_habit(habit="free")
        self.assertEqual([day.changed, day.deeds()], [HALF, [("habit", "free")] * 2])
        for value in ODD + ["FREE", "", None]:
            self.refuses(BadHabit, day.set_habit, [value])
        down = ("step", ZERO, (((2, 1), END),))
        day = Day((down,))
        self.assertTrue(is_ring(pairs_of(down) + [LEAVING], self.told(NoFrame, day.set_habit, "free")))
        self.assertEqual([day.habit, day.deeds()], ["done", []])
        day.set_habit("done")

    def test_leaving(self):
        day = Day((WORK, SURE), habit="free")
        day.do((1,), 0)
        self.assertIsNone(day.leave())
        self.assertEqual([day.lost, day.to_come, day.is_over, day.mix, day.weight, day.changed],
                         [(4, 1), ZERO, True, (WORK, END), ONE, ZERO])
        self.assertEqual([day.losses(), day.best()], [[], []])
        day = Day((WORK,))
        self.assertEqual(self.told(BadHabit, day.leave), "done")
        day.set_habit("free")
        day.leave()
        self.assertEqual(day.deeds(), [("habit", "free"), ("leave",)])


class Over(Case):
    def test_deeds_of_a_day_that_is_over(self):
        left = Day((SURE,), habit="free")
        left.come(WORK)
        left.leave()
        ended = Day((LEAF, SURE))
        ended.do((0,))
        for day, count in ((left, 2), (ended, 1)):
            told = all_of(day)
            for call in (lambda: day.do(None, "x"), lambda: day.do((0,), 0), lambda: day.come(None), lambda: day.come(END),
                         lambda: day.go(99), lambda: day.go(0), lambda: day.put(None, None), lambda: day.set_habit("no"),
                         lambda: day.set_habit("free"), day.leave, lambda: day.run([]), lambda: day.run([None])):
                self.assertEqual(self.told(DayOver, call), count)
            self.assertEqual(all_of(day), told)
            # All other methods are let.
            self.assertEqual(len(day.deeds()), count)
            self.assertEqual(day.term(0), day.mix[0])
            day.mark("x")
            self.assertIs(day.is_marked("x"), True)
            self.assertIs(day.fork().is_over, True)
            day.undo()
            self.assertIs(day.is_over, False)
            day.redo()
            self.assertEqual(seen(day), told[0])
            day.undo()
            day.back("x")
            self.assertEqual(seen(day), told[0])

    def test_a_hundred_deeds(self):
        day = Day((SURE, END), habit="free")
        for _ in range(99):
            day.set_habit("free")
        day.go(1)
        told = all_of(day)
        for call in (lambda: day.do((0,), 0), lambda: day.come(END), lambda: day.go(0), lambda: day.put(0, END),
                     lambda: day.set_habit("done"), day.leave, lambda: day.run([0])):
            self.assertEqual(self.told(TooMany, call), 100)
            self.assertEqual(all_of(day), told)
        # It is behind all other errors.
        for kind, call in ((BadPlace, lambda: day.do((9,), 0)), (BadOutcome, lambda: day.do((0,), 9)),
                           (BadTerm, lambda: day.come(None)), (BadNumber, lambda: day.go(9)), (BadTerm, lambda: day.put(0, None)),
                           (BadHabit, lambda: day.set_habit("x")), (BadOutcome, lambda: day.run([9])),
                           (NoFrame, lambda: day.come(("step", ZERO, (((2, 1), END),))))):
            self.told(kind, call)
        self.assertEqual(day.run([]), [])
        day.undo()
        day.leave()
        self.assertEqual(self.told(DayOver, day.leave), 100)
        other = Day((SURE,))
        for _ in range(100):
            other.set_habit("done")
        self.assertEqual(self.told(BadHabit, other.leave), "done")
        full = Day((SURE,) * 4)
        for _ in range(100):
            full.set_habit("done")
        self.assertEqual(self.told(BadMix, full.come, SURE), (SURE,) * 5)
        self.assertEqual(self.told(TooMany, full.put, 0, END), 100)


class Taking(Case):
    def test_undo_and_redo(self):
        day = Day((WORK, SURE))
        self.assertEqual([self.told(NoDeed, day.undo), self.told(NoDeed, day.redo)], ["undo", "redo"])
        told = [seen(day)]
        day.do((1,), 0)
        told.append(seen(day))
        day.come(LEAF)
        told.append(seen(day))
        self.assertIsNone(day.undo())
        self.assertEqual(seen(day), told[1])
        day.undo()
        self.assertEqual(seen(day), told[0])
        self.assertEqual(self.told(NoDeed, day.undo), "undo")
        self.assertIsNone(day.redo())
        self.assertEqual(seen(day), told[1])
        day.redo()
        self.assertEqual(seen(day), told[2])
        self.assertEqual(self.told(NoDeed, day.redo), "redo")

    def test_what_forgets_the_undone_deeds(self):
        def ready():
            day = Day((WORK, SURE), habit="free")
            day.go(0)
            day.go(1)
            day.undo()
            return day

        for call in (lambda day: day.do((1,), 0), lambda day: day.come(END), lambda day: day.go(0), lambda day: day.put(0, END),
                     lambda day: day.set_habit("free"), lambda day: day.leave(), lambda day: day.run([0]),
                     lambda day: (day.mark("x"), day.back("x"))):
            day = ready()
            self.assertEqual(undone(day), [("go", 1)])
            call(day)
            self.assertEqual(undone(day), [])
            self.assertEqual(self.told(NoDeed, day.redo), "redo")
        for call in (lambda day: day.mark("x"), lambda day: day.losses(), lambda day: day.fork().leave(),
                     lambda day: day.run([]), lambda day: outcome_of(day.do, (9,), 0), lambda day: outcome_of(day.go, 9),
                     lambda day: outcome_of(day.come, None), lambda day: outcome_of(day.set_habit, "x"),
                     lambda day: outcome_of(day.put, 0, None), lambda day: outcome_of(day.run, [None]),
                     lambda day: outcome_of(day.back, "x"), lambda day: (day.undo(), day.redo())):
            day = ready()
            call(day)
            self.assertEqual(undone(day), [("go", 1)])

    def test_marks(self):
        day = Day((WORK, SURE))
        day.go(0)
        self.assertIsNone(day.mark("here"))
        told = seen(day)
        day.do((1,), 0)
        day.undo()
        day.undo()
        day.come(LEAF)
        self.assertIsNone(day.back(name="here"))
        self.assertEqual(seen(day), told)
        # The marks stay, and a name may note something else.
        day.go(1)
        day.mark(name="there")
        day.back("here")
        day.mark("here")
        day.back("there")
        self.assertEqual(day.deeds(), [("go", 0), ("go", 1)])
        day.undo()
        day.undo()
        day.mark("there")
        day.back("here")
        day.back("there")
        self.assertEqual(day.deeds(), [])

    def test_back_where_nothing_else_changes(self):
        day = Day((WORK, SURE))
        day.mark("a")
        day.go(0)
        day.undo()
        day.back("a")
        self.assertEqual([undone(day), day.deeds()], [[], []])

    def test_names(self):
        day = Day((SURE,))
        for value in ("a", "z", "abcdefghijkl", "mark"):
            self.assertIs(day.is_marked(value), False)
            self.assertEqual(self.told(BadMark, day.back, value), value)
            day.mark(value)
            self.assertIs(day.is_marked(value), True)
            self.assertIs(day.is_marked(value=value), True)
            day.back(value)
        for value in ODD + ["A", "a b", "a1", "abcdefghijklm", "a\n", "\n", "_", "aB", ["a"], ("a",), "`", "{"]:
            if value not in ("end", "step"):
                self.refuses(BadMark, day.mark, [value])
                self.refuses(BadMark, day.back, [value])
                self.assertIs(day.is_marked(value), False)

    def test_forks(self):
        day = Day((WORK, SURE))
        day.mark("a")
        day.go(0)
        day.mark("b")
        day.come(LEAF)
        day.undo()
        other = day.fork()
        self.assertIsNot(day, other)
        self.assertIsInstance(other, Day)
        self.assertEqual(all_of(day), all_of(other))
        self.assertEqual([other.is_marked(name) for name in ("a", "b", "c")], [True, True, False])
        told = all_of(day)
        other.redo()
        other.mark("a")
        other.mark("c")
        other.go(1)
        other.undo()
        self.assertEqual(all_of(day), told)
        self.assertIs(day.is_marked("c"), False)
        day.back("a")
        self.assertEqual(day.deeds(), [])
        other.back("a")
        self.assertEqual(other.deeds(), [("go", 0), ("come", LEAF)])
        day.set_habit("free")
        day.mark("b")
        other.back("b")
        self.assertEqual([other.deeds(), other.habit, other.first], [[("go", 0)], "done", (7, 1)])

    def test_lists_are_new(self):
        day = Day((WORK, SURE), habit="free")
        day.go(0)
        for call in (day.deeds, day.losses, day.best):
            told = call()
            told.append("x")
            self.assertIsNot(call(), told)
            self.assertNotIn("x", call())
        choices = [0, 0]
        self.assertEqual(day.run(choices), [(1,)])
        self.assertEqual(choices, [0, 0])

    def test_any_sequence_of_taking_back_is_what_the_deeds_make(self):
        source = random.Random(282)
        for _ in range(40):
            habit = source.choice(HABITS)
            mix = random_fitting_mix(source, habit)
            day = Day(mix, habit=habit)
            standing, taken, marks = [], [], {}
            for _ in range(25):
                kind = source.choice(["deed"] * 4 + ["undo"] * 3 + ["redo"] * 2 + ["mark", "back"])
                name = source.choice("abc")
                if kind == "deed":
                    count = len(day.deeds())
                    random_deed(source, day)
                    if len(day.deeds()) > count:
                        standing, taken = standing + day.deeds()[-1:], []
                elif kind == "undo" and standing:
                    day.undo()
                    standing, taken = standing[:-1], taken + standing[-1:]
                elif kind == "redo" and taken:
                    day.redo()
                    standing, taken = standing + taken[-1:], taken[:-1]
                elif kind == "mark":
                    day.mark(name)
                    marks[name] = list(standing)
                elif kind == "back" and name in marks:
                    day.back(name)
                    standing, taken = list(marks[name]), []
                self.assertEqual(day.deeds(), standing)
                self.assertEqual(undone(day), taken[::-1])
                model = modelled(mix, habit, standing)
                self.assertEqual([day.mix, day.habit, day.is_over], [model.mix, model.habit, model.is_over()])
                for amount in ("weight", "paid", "passed", "lost", "changed", "first"):
                    self.assertEqual(as_fraction(getattr(day, amount)), getattr(model, amount), amount)
                self.assertEqual(as_fraction(day.to_come), model.to_come())


class Runs(Case):
    def test_they_go_by_the_rule(self):
        source = random.Random(283)
        ended = 0
        for _ in range(120):
            habit = source.choice(HABITS)
            mix = random_fitting_mix(source, habit)
            day, choices = Day(mix, habit=habit), []
            other = day.fork()
            while not other.is_over and rule_step(other.mix, habit) is not None and len(choices) < source.choice([2, 9]):
                place = rule_step(other.mix, habit)
                outcomes = term_at(other.mix[place[0]], place[1:])[2]
                outcome = source.randrange(len(outcomes)) if outcomes else None
                choices += [] if outcome is None else [outcome]
                other.do(place, outcome)
            if not other.is_over and choices and rule_step(other.mix, habit) is not None:
                # A step without outcomes is done though no choice is left.
                while not other.is_over and rule_step(other.mix, habit) is not None:
                    place = rule_step(other.mix, habit)
                    if term_at(other.mix[place[0]], place[1:])[2]:
                        break
                    other.do(place)
            if choices:
                done, behind, weight, paid = rule_walk(mix, habit, choices)
                self.assertEqual(day.run(choices), done)
                self.assertEqual([day.mix, day.weight, day.paid], [behind, weight, paid])
                self.assertEqual(seen(day), seen(other))
                self.assertEqual([day.lost, len(day.deeds())], [ZERO, len(done)])
                ended += day.is_over
        self.assertGreater(ended, 10)

    def test_choices_that_are_left_over(self):
        day = Day((SURE, WORK))
        self.assertEqual(day.run([0, 0, None, "x", 99]), [(0,), (1,), (1,)])
        self.assertIs(day.is_over, True)
        self.assertEqual(day.deeds(), [("do", (0,), 0), ("do", (1,), 0), ("do", (1,), None)])
        day = Day((SURE,))
        self.assertEqual(day.run([0, None]), [(0,)])
        self.assertEqual(day.run([None]), [])
        self.assertEqual(Day((COSTS,), habit="free").run([0, 0]), [])
        self.assertEqual(Day((TOSS,), habit="free").run([1]), [(0,)])

    def test_wrong_choices_take_all_back(self):
        for value in ODD + [1, -1, True, None, "0"]:
            if not (value == 0 and isinstance(value, int) and not isinstance(value, bool)):
                day = Day((SURE, WORK))
                day.go(1)
                day.undo()
                told = all_of(day)
                self.assertIs(self.told(BadOutcome, day.run, [0, value]), value)
                self.assertIs(self.told(BadOutcome, day.run, choices=[value]), value)
                self.assertEqual(all_of(day), told)
                self.assertEqual(undone(day), [("go", 1)])

    def test_too_many_deeds_take_all_back(self):
        day = Day((SURE, WORK))
        for _ in range(98):
            day.go(0) if day.term(0) == END else day.set_habit("done")
        day.mark("x")
        day.set_habit("done")
        day.undo()
        told = all_of(day)
        self.assertEqual(self.told(TooMany, day.run, [0, 0]), 100)
        self.assertEqual(all_of(day), told)
        self.assertEqual(undone(day), [("habit", "done")])
        self.assertEqual(self.told(BadOutcome, day.run, [0, 0.5]), 0.5)
        self.assertEqual(day.run([0]), [(0,)])
        self.assertEqual(len(day.deeds()), 99)

    def test_a_step_without_outcomes_takes_no_choice(self):
        day = Day((LEAF,))
        self.assertEqual(day.run([]), [(0,)])
        self.assertEqual(day.deeds(), [("do", (0,), None)])


class Facts(Case):
    def test_the_account_is_even(self):
        source = random.Random(284)
        for _ in range(60):
            habit = source.choice(HABITS)
            day = Day(random_fitting_mix(source, habit), habit=habit)
            for _ in range(10):
                lost, best, count = day.lost, day.best(), len(day.deeds())
                told = (day.mix, day.habit)
                random_deed(source, day)
                amounts = [as_fraction(getattr(day, name)) for name in ("paid", "passed", "lost", "to_come")]
                self.assertEqual(as_fraction(day.first) + as_fraction(day.changed), sum(amounts))
                self.assertGreaterEqual(as_fraction(day.lost), as_fraction(lost))
                if len(day.deeds()) > count and day.deeds()[-1][0] == "do" and size(told[0]) <= 400:
                    place = day.deeds()[-1][1]
                    self.assertIs(day.lost == lost, place in best_steps(*told)[0])
                    self.assertIs(day.lost == lost, place in best)

    def test_alike_terms(self):
        source = random.Random(285)
        for _ in range(40):
            term = random_framed_term(source, 10)
            other = chain(ladder_of(term)) if len(ladder_of(term)) <= 16 else term
            day = Day((term, END))
            if goes_with((term, SURE), (), "done"):
                day.put(1, SURE)
            changed = day.changed
            day.put(0, other)
            self.assertEqual(day.changed, changed)
        # By "free" only what pays counts.
        day = Day((SURE, COSTS), habit="free")
        day.put(1, END)
        self.assertEqual(day.changed, ZERO)
        day.put(1, COSTS)
        day.set_habit("done")
        changed = day.changed
        day.put(1, END)
        self.assertNotEqual(day.changed, changed)

    def test_the_same_steps_in_another_sequence(self):
        source = random.Random(286)
        unlike = same = 0
        for _ in range(400):
            habit = source.choice(HABITS)
            mix = random_fitting_mix(source, habit, 16, 4)
            days = [Day(mix, habit=habit) for _ in range(2)]
            # Which outcome each step has, by the place at which it stands in the mix at first.
            fate = {}
            done = [[], []]
            for day, places in zip(days, done):
                marked = {place: place for place in front(mix)}
                while marked and not day.is_over:
                    place = source.choice(sorted(marked))
                    name = marked[place]
                    outcomes = term_at(day.mix[place[0]], place[1:])[2]
                    if not outcomes:
                        del marked[place]
                        continue
                    outcome = fate.setdefault(name, source.randrange(len(outcomes)))
                    day.do(place, outcome)
                    places.append(name)
                    del marked[place]
                    for other in front(day.mix):
                        if other[:len(place)] == place:
                            marked[other] = name + (outcome,) + other[len(place):]
            first, second = days
            unlike += done[0] != done[1]
            if sorted(done[0]) == sorted(done[1]):
                self.assertEqual([first.mix, first.weight], [second.mix, second.weight])
                sums = [sum([as_fraction(amount) for amount in (day.paid, day.passed, day.lost)]) for day in days]
                self.assertEqual(sums[0], sums[1])
                same += 1
        self.assertGreater(min(unlike, same), 15)

    def test_led_in_all_ways(self):
        source = random.Random(287)

        def total(day, paid, lost):
            """What is paid and lost with all steps from here on, each once for all its outcomes."""
            places = front(day.mix)
            if not places or day.is_over:
                return Fraction(0)
            place = source.choice(places)
            outcomes = term_at(day.mix[place[0]], place[1:])[2]
            found = None
            for outcome in range(len(outcomes)) if outcomes else [None]:
                other = day.fork()
                other.do(place, outcome)
                gained = as_fraction(other.paid) - paid + as_fraction(other.lost) - lost
                self.assertIn(found, (None, gained))
                found = gained
            rest = Fraction(0)
            for outcome in range(len(outcomes)):
                other = day.fork()
                other.do(place, outcome)
                rest += total(other, as_fraction(other.paid), as_fraction(other.lost))
            return found + rest

        for _ in range(30):
            habit = source.choice(HABITS)
            mix = random_fitting_mix(source, habit, 8, 2)
            if size(mix) > 40:
                continue
            day = Day(mix, habit=habit)
            self.assertEqual(total(day, Fraction(0), Fraction(0)), as_fraction(day.first), (mix, habit))


class AnyValues(Case):
    def test_each_call_has_its_answer_or_its_error_and_errors_change_nothing(self):
        day = Day((WORK, SURE), habit="free")
        day.come(LEAF)
        day.undo()
        told = all_of(day)
        calls = {"do": {"BadPlace", "BadOutcome"}, "come": {"BadTerm", "BadMix", "NoFrame"}, "go": {"BadNumber"},
                 "term": {"BadNumber"}, "set_habit": {"BadHabit"}, "mark": {"BadMark"}, "back": {"BadMark"}, "is_marked": set()}
        for name, kinds in calls.items():
            for value in ODD:
                length = len(value) if isinstance(value, (tuple, list, dict, str)) else None
                other = day.fork()
                answer = outcome_of(getattr(other, name), value)
                if answer[0] == "raised":
                    self.assertIn(answer[1], kinds)
                    self.assertEqual(all_of(other), told)
                self.assertEqual(len(value) if length is not None else None, length)
        self.assertEqual(all_of(day), told)

    def test_nothing_is_a_toss_pair(self):
        # What a ring is numbered among: tosses do not count.
        day = Day((TOSS, UNLIKE[0]))
        ring = self.told(NoFrame, day.come, AGAINST)
        pairs = [pair for term in (TOSS, UNLIKE[0], AGAINST) for pair in pairs_of(term) if pair != NOTHING]
        self.assertTrue(is_ring(pairs, ring))

    def test_random_terms(self):
        source = random.Random(288)
        for _ in range(60):
            day = random_day(source, 4)
            term = random_term(source, 20)
            told = all_of(day)
            answer = outcome_of(day.come, term)
            if answer[0] == "raised":
                self.assertEqual(all_of(day), told)
            else:
                self.assertEqual(day.term(answer[1]), term)
                self.assertTrue(is_mix(day.mix))

    def test_amounts_are_fractions(self):
        source = random.Random(289)
        for _ in range(30):
            day = random_day(source)
            for name in ("weight", "paid", "passed", "lost", "changed", "first", "to_come"):
                amount = getattr(day, name)
                self.assertEqual(as_amount(as_fraction(amount)), amount)
            self.assertIsInstance(day.is_over, bool)
