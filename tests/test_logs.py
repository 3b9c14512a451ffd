import random

from onenumber.days import Day
from onenumber.errors import (
    BadHabit,
    BadLine,
    BadMix,
    BadNumber,
    BadOutcome,
    BadPlace,
    DayOver,
    MixError,
    NoFrame,
    TooMany,
)
from onenumber.logs import account, format_day, is_account, is_log, parse_day
from onenumber.termtexts import format_mix, format_term
from tests.dayvalues import random_day, seen, undone
from tests.values import END, HALF, LEAF, ODD, ONE, ZERO, Case, near, outcome_of

WORK = ("step", (2, 1), ((HALF, ("step", (4, 1), ())),))
SURE = ("step", (3, 1), ((ONE, END),))
AGAINST = ("step", (-2, 1), (((2, 1), END),))
FIRST = "day free mix ( step 3 ( 1 end ) all ( end end ) )"
LONG = "\n".join([FIRST, "come step 2 ( 1/2 step 4 ( ) )", "do 0 0", "put 0 step 1 ( )", "go 1", "habit done", "habit free",
                  "do 0 -"])


def long_day():
    day = Day((SURE, ("all", (END, END))), habit="free")
    day.come(WORK)
    day.do((0,), 0)
    day.put(0, LEAF)
    day.go(1)
    day.set_habit("done")
    day.set_habit("free")
    day.do((0,))
    return day


class Logs(Case):
    def refused(self, text, number, cause=None):
        """That a text is no log by the line of this number; the class of the error from which this is raised."""
        for function in (parse_day, account, lambda value: is_account(value, [])):
            with self.assertRaises(BadLine) as caught:
                function(text)
            error = caught.exception
            self.assertEqual((error.value, error.value.__class__), (number, int), text)
            self.assertEqual(error.__cause__.__class__, cause or None.__class__, text)
            if cause is None:
                self.assertIsNone(error.__context__)
        self.assertIs(is_log(text), False)

    def test_texts(self):
        self.assertEqual(format_day(long_day()), LONG)
        self.assertEqual(format_day(Day((END,))), "day done mix ( end )")
        nested = Day((("all", (WORK, ("all", (SURE, LEAF)))), END), habit="free")
        nested.do((0, 1, 0), 0)
        nested.leave()
        self.assertEqual(format_day(nested).split("\n")[1:], ["do 0.1.0 0", "leave"])
        # The mix and the habit are those at first.
        self.assertEqual(format_day(day=nested).split("\n")[0],
                         "day free " + format_mix((("all", (WORK, ("all", (SURE, LEAF)))), END)))

    def test_days_of_logs(self):
        day = parse_day(LONG)
        self.assertIsInstance(day, Day)
        self.assertEqual(seen(day), seen(long_day()))
        source = random.Random(291)
        for _ in range(60):
            day = random_day(source)
            # Undone deeds and marks are in no log.
            day.mark("a")
            if day.deeds():
                day.undo()
            text = format_day(day)
            self.assertIs(is_log(text), True)
            other = parse_day(text)
            self.assertEqual(seen(other), seen(day))
            self.assertEqual(undone(other), [])
            self.assertIs(other.is_marked("a"), False)
            self.assertEqual(format_day(other), text)
            self.assertIsNot(parse_day(text), other)

    def test_the_first_line(self):
        self.assertIs(is_log("day done mix ( end )"), True)
        for text in ("", "day", "day ", "day done", "day done ", "day done mix ( )", "day done mix ( end ) ", " day done mix ( end )",
                     "day  done mix ( end )", "day done  mix ( end )", "day maybe mix ( end )", "day mix ( end )", "done mix ( end )",
                     "Day done mix ( end )", "day done end", "day done mix ( step 2/4 ( ) )", "day free done mix ( end )",
                     "\nday done mix ( end )", "leave", "day done mix ( end )leave", "daydone mix ( end )",
                     "day day done mix ( end )", "day done mix ( step 1000000000000 ( ) )"):
            self.refused(text, 0)
            self.refused(text + "\nleave", 0)

    def test_a_mix_that_does_not_fit_its_habit(self):
        unlike = format_mix((("step", ONE, ((HALF, END),)), AGAINST))
        self.refused("day done " + unlike, 0, NoFrame)
        down = "mix ( step 0 ( 2 end ) )"
        self.refused("day free " + down, 0, NoFrame)
        self.assertIs(is_log("day done " + down), True)

    def test_lines_that_are_not_of_the_form(self):
        for line in ("", " ", "leave ", " leave", "leaves", "do", "do ", "do 0", "do 0 ", "do 0 0 0", "do  0 0", "do 0  0", "do 0 --",
                     "do 0 +0", "do 0 -0", "do 0 -1", "do -1 0", "do 00 0", "do 0 00", "do 0. 0", "do .0 0", "do 0..0 0", "do 0,0 0",
                     "do 0 1000000000000", "do 1000000000000 0", "do 0.0000 0", "do a 0", "do 0 a", "do - 0", "do - -", "do () 0",
                     "come", "come ", "come x", "come end ", "come  end", "come end end", "come step 2/4 ( )", "come mix ( end )",
                     "go", "go ", "go 0 ", "go x", "go -1", "go 01", "go 0 0", "go  0", "go 1000000000000", "go 0.0",
                     "put", "put 0", "put 0 ", "put end", "put 0 end ", "put  0 end", "put 0  end", "put 00 end", "put -1 end",
                     "put x end", "put 0 x", "put 1000000000000 end", "habit", "habit ", "habit maybe", "habit done ", "habit  done",
                     "habit done free", "undo", "redo", "mark a", "back a", "run 0", "day done mix ( end )", "DO 0 0", "do\t0 0",
                     "Leave", "set_habit done", "step 1 ( )", "end"):
            self.refused(FIRST + "\n" + line, 1)
            self.refused(FIRST + "\ngo 1\n" + line + "\nleave", 2)

    def test_lines_whose_deed_raises_an_error(self):
        for line, kind in (("do 1 0", BadPlace), ("do 9 0", BadPlace), ("do 0.0 0", BadPlace), ("do 0 1", BadOutcome),
                           ("do 0 -", BadOutcome), ("do 999999999999 0", BadPlace), ("do 0 999999999999", BadOutcome),
                           ("go 2", BadNumber), ("go 999999999999", BadNumber), ("put 2 end", BadNumber),
                           ("come step 0 ( 2 end )", NoFrame), ("put 1 step 0 ( 2 end )", NoFrame)):
            self.refused(FIRST + "\n" + line, 1, kind)
            # The lines behind it are not looked at.
            self.refused(FIRST + "\n" + line + "\nwrong", 1, kind)
        self.refused("day done mix ( end )\nleave", 1, BadHabit)
        self.refused("day done mix ( step 0 ( 2 end ) )\nhabit free", 1, NoFrame)
        full = "day done " + format_mix((SURE,) * 4)
        self.refused(full + "\ncome end", 1, BadMix)
        self.refused(FIRST + "\nleave\ngo 0", 2, DayOver)
        self.refused("day done mix ( step 1 ( ) )\ndo 0 -\nhabit x", 2)
        self.refused("day done mix ( step 1 ( ) )\ndo 0 -\nhabit free", 2, DayOver)
        self.refused(FIRST + "\ngo 1" * 101, 101, TooMany)
        self.refused(FIRST + "\ngo 1" * 100 + "\n", 101)
        self.assertIs(is_log(FIRST + "\ngo 1" * 100), True)

    def test_integers(self):
        self.assertIs(is_log(FIRST + "\ngo 0\ngo 1"), True)
        self.refused(FIRST + "\ngo 123456789012", 1, BadNumber)
        self.refused(FIRST + "\ngo 1234567890123", 1)

    def test_the_error_that_a_deed_raised_is_kept(self):
        with self.assertRaises(BadLine) as caught:
            parse_day(FIRST + "\ngo 7")
        self.assertEqual(caught.exception.__cause__.value, 7)
        self.assertIsInstance(caught.exception.__cause__, MixError)

    def test_any_values(self):
        for value in ODD:
            self.refused(value, 0)
        self.refused([LONG], 0)
        self.refused(LONG + "\n", 8)
        self.refused("\n" * 50000, 0)
        self.refused(FIRST + "\n" * 40000, 1)
        self.refused(LONG.encode(), 0)

    def test_long_fractions(self):
        # A term that comes may have fractions that are longer than those that are read.
        day = Day((END,))
        day.come(("step", (10 ** 12, 1), ()))
        text = format_day(day)
        self.assertEqual(text, "day done mix ( end )\ncome step 1000000000000 ( )")
        self.refused(text, 1)
        day = Day((("step", (1, 10 ** 5000), ()),))
        self.assertEqual(format_day(day), "day done mix ( step 1/1" + "0" * 5000 + " ( ) )")
        self.assertEqual(format_term(LEAF), "step 1 ( )")


class Accounts(Case):
    def test_entries(self):
        source = random.Random(292)
        for _ in range(40):
            day = random_day(source)
            told = account(format_day(day))
            self.assertEqual(len(told), len(day.deeds()) + 1)
            other = day.fork()
            for entry in told[::-1]:
                self.assertEqual(entry, (other.paid, other.passed, other.lost, other.changed, other.to_come))
                if other.deeds():
                    other.undo()
            self.assertIs(is_account(format_day(day), told), True)

    def test_small_ones(self):
        self.assertEqual(account("day done mix ( end )"), [(ZERO,) * 5])
        self.assertEqual(account(text="day free mix ( step 3 ( 1 end ) )\nleave"),
                         [(ZERO, ZERO, ZERO, ZERO, (3, 1)), (ZERO, ZERO, (3, 1), ZERO, ZERO)])
        self.assertEqual(len(account(LONG)), 8)

    def test_judging(self):
        right = account(LONG)
        self.assertIs(is_account(LONG, list(right)), True)
        self.assertIs(is_account(text=LONG, value=right), True)
        for value in near(right) + ODD + [right[:-1], right + right[-1:], tuple(right), [list(entry) for entry in right], []]:
            self.assertIs(is_account(LONG, value), False, value)
        one = account("day done mix ( step 1 ( ) )")
        self.assertEqual(one, [(ZERO, ZERO, ZERO, ZERO, ONE)])
        self.assertIs(is_account("day done mix ( step 1 ( ) )", [(ZERO, ZERO, ZERO, ZERO, (True, 1))]), False)
        self.assertIs(is_account("day done mix ( step 1 ( ) )", [(ZERO, ZERO, (False, 1), ZERO, ONE)]), False)

    def test_each_call_gives_a_new_list(self):
        told = account(LONG)
        told.append("x")
        self.assertNotIn("x", account(LONG))
        self.assertEqual(outcome_of(account, LONG), outcome_of(account, LONG))
