import random

from onenumber.console import Console
from onenumber.days import Day
from onenumber.errors import NoDay
from onenumber.logs import format_day
from onenumber.termtexts import format_fraction, format_mix, format_term
from tests.dayvalues import all_of, random_deed, seen, undone
from tests.values import END, HALF, ODD, ONE, Case, outcome_of, random_fitting_mix

WORK = ("step", (2, 1), ((HALF, ("step", (4, 1), ())),))
SURE = ("step", (3, 1), ((ONE, END),))
MIX = "mix ( step 2 ( 1/2 step 4 ( ) ) step 3 ( 1 end ) )"
OPEN = "open a free " + MIX
# Lines that are right, with names by which days may be kept.
RIGHT = ["do a 0 0", "do a 1.0 -", "come a end", "come a step 1 ( )", "go a 0", "put a 0 end", "habit a done", "habit a free",
         "leave a", "undo a", "redo a", "mark a x", "back a x", "fork a b", "fork a a", "close a", "best a", "losses a", "tell a",
         "log a"]


def opened(*lines):
    console = Console()
    console.answer(OPEN)
    for line in lines:
        console.answer(line)
    return console


def told(console):
    return {name: all_of(console.day(name)) for name in console.names()}


class Answers(Case):
    def test_lines_that_are_not_right(self):
        wrong = ["", " ", "names ", " names", "names a", "Names", "open", "open a", "open a done", "open a done ", "open a maybe " + MIX,
                 "open a " + MIX, "open  a done " + MIX, "open a  done " + MIX, "open a done  " + MIX, "open a done " + MIX + " ",
                 "open A done " + MIX, "open a1 done " + MIX, "open abcdefghijklm done " + MIX, "open a done end",
                 "open a done mix ( step 2/4 ( ) )", "open a done mix ( )", OPEN + "\n", "\n" + OPEN, OPEN.replace(" free", "\nfree"),
                 "names\n", "do a", "do a 0", "do a 0 0 0", "do a  0 0", "do a 0  0", "do  a 0 0", "do a 00 0", "do a 0 00",
                 "do a 0 -1", "do a -1 0", "do a 0. 0", "do a 1000000000000 0", "do a 0 1000000000000", "do 0 0", "do a 0 x",
                 "do a 0 0\n", "do a 0\n0 0", "come a", "come a x", "come a end ", "come a  end", "come end", "go a", "go a x",
                 "go a 0 0", "go a -1", "go a 01", "go a ", "put a", "put a 0", "put a end", "put a 0 end end", "put a 0  end",
                 "put a 00 end", "habit a", "habit a maybe", "habit a done ", "habit a done free", "habit done", "leave", "leave ",
                 "leave a ", "leave a b", "leave  a", "leave A", "undo", "undo a b", "undo a ", "redo", "redo a 1", "mark a",
                 "mark a ", "mark a B", "mark a x y", "mark a abcdefghijklm", "mark a  x", "back a", "back a 1", "back a x y",
                 "fork a", "fork a b c", "fork a B", "fork a ", "close", "close a b", "close a ", "best", "best a b", "losses",
                 "losses a 0", "tell", "tell a a", "log", "log a 1", "set_habit a done", "run a 0", "term a 0", "deeds a",
                 "day a", "is_open a", "is_marked a x", "OPEN a done " + MIX, "do a 0 0 ", " do a 0 0", "best a\n", "best\na",
                 "mark a x\n", "tell a\ntell a"]
        for console in (Console(), opened()):
            kept = told(console)
            for value in wrong + ODD + [["names"], ("names",), b"names"]:
                self.assertEqual(console.answer(value), "? BadLine", value)
            self.assertEqual(told(console), kept)

    def test_right_lines_without_a_day(self):
        console = Console()
        for line in RIGHT:
            self.assertEqual(console.answer(line), "? NoDay", line)
            self.assertEqual(console.answer(line=line), "? NoDay", line)
        self.assertEqual(console.answer("names"), "-")
        console = opened()
        for line in RIGHT:
            self.assertEqual(console.answer(line.replace(" a", " c", 1)), "? NoDay", line)
        # The second name need not be that of a day.
        self.assertEqual(console.answer("fork a zz"), "ok")
        self.assertEqual(console.answer("fork yy a"), "? NoDay")

    def test_the_sequence(self):
        console = opened()
        self.assertEqual([console.answer(line) for line in ("do b 0 x", "do b 9 0", "do a 9 0", "do a 0 9")],
                         ["? BadLine", "? NoDay", "? BadPlace", "? BadOutcome"])

    def test_errors_of_deeds(self):
        console = opened()
        kept = told(console)
        for line, answer in (("do a 5 0", "BadPlace"), ("do a 0 -", "BadOutcome"), ("go a 2", "BadNumber"), ("put a 7 end", "BadNumber"),
                             ("come a step 0 ( 2 end )", "NoFrame"), ("undo a", "NoDeed"), ("redo a", "NoDeed"),
                             ("back a x", "BadMark"), ("open a free mix ( step 0 ( 2 end ) )", "NoFrame"),
                             ("open b free mix ( step 0 ( 2 end ) )", "NoFrame")):
            self.assertEqual(console.answer(line), "? " + answer, line)
            self.assertEqual(told(console), kept)
        full = "open a done " + format_mix((SURE,) * 4)
        self.assertEqual([console.answer(line) for line in (full, "come a end", "leave a", "habit a free", "leave a", "leave a",
                                                            "go a 0")],
                         ["ok", "? BadMix", "? BadHabit", "ok", "ok", "? DayOver", "? DayOver"])
        console = opened()
        for _ in range(100):
            self.assertEqual(console.answer("habit a free"), "ok")
        self.assertEqual([console.answer("habit a free"), console.answer("do a 0 0")], ["? TooMany"] * 2)

    def test_opening(self):
        console = Console()
        self.assertEqual(console.answer("open b done " + MIX), "ok")
        self.assertEqual(seen(console.day("b")), seen(Day((WORK, SURE))))
        # A new day stands in place of one that was kept.
        console.answer("go b 0")
        self.assertEqual(console.answer("open b free mix ( end )"), "ok")
        self.assertEqual(seen(console.day("b")), seen(Day((END,), habit="free")))
        self.assertEqual(console.answer("open abcdefghijkl done mix ( end )"), "ok")
        self.assertEqual(console.answer("open aa done mix ( end )"), "ok")
        self.assertEqual(console.answer("names"), "aa abcdefghijkl b")

    def test_deeds(self):
        console, day = opened(), Day((WORK, SURE), habit="free")
        lines = (("do a 1 0", lambda: day.do((1,), 0)), ("come a step 1 ( )", lambda: day.come(("step", ONE, ()))),
                 ("go a 0", lambda: day.go(0)), ("put a 0 step 3 ( 1 end )", lambda: day.put(0, SURE)),
                 ("habit a done", lambda: day.set_habit("done")), ("undo a", day.undo), ("undo a", day.undo), ("redo a", day.redo),
                 ("mark a x", lambda: day.mark("x")), ("undo a", day.undo), ("mark a a", lambda: day.mark("a")),
                 ("back a x", lambda: day.back("x")), ("back a a", lambda: day.back("a")),
                 ("do a 1 -", lambda: day.do((1,))), ("undo a", day.undo), ("leave a", day.leave))
        for line, call in lines:
            self.assertEqual(console.answer(line), "ok", line)
            call()
            self.assertEqual(all_of(console.day("a")), all_of(day), line)
        self.assertEqual(console.answer("log a"), format_day(day))

    def test_forks(self):
        console = opened("go a 0", "go a 1", "undo a", "mark a x")
        kept = all_of(console.day("a"))
        first = console.day("a")
        self.assertEqual(console.answer("fork a b"), "ok")
        self.assertEqual(all_of(console.day("b")), kept)
        self.assertIs(console.day("a"), first)
        console.answer("redo b")
        self.assertEqual(all_of(console.day("a")), kept)
        # In place of one that was kept, also if both names are one.
        self.assertEqual(console.answer("fork a b"), "ok")
        self.assertEqual(all_of(console.day("b")), kept)
        self.assertEqual(console.answer("fork a a"), "ok")
        self.assertIsNot(console.day("a"), first)
        self.assertEqual(all_of(console.day("a")), kept)
        self.assertIs(console.day("a").is_marked("x"), True)
        self.assertEqual(undone(console.day("a")), [("go", 1)])

    def test_closing(self):
        console = opened("fork a b")
        self.assertEqual(console.answer("close a"), "ok")
        self.assertEqual([console.answer("close a"), console.answer("names"), console.is_open("a")], ["? NoDay", "b", False])

    def test_best(self):
        console = opened()
        self.assertEqual(console.answer("best a"), "1")
        console.answer("open a free mix ( all ( step 3 ( 1 end ) step 3 ( 1 end ) ) step 1 ( 1 end ) )")
        self.assertEqual(console.answer("best a"), "0.0 0.1 1")
        console.answer("open a free mix ( step 0 ( 1/2 end ) )")
        self.assertEqual(console.answer("best a"), "0 leave")
        console.answer("open a free mix ( end )")
        self.assertEqual([console.answer("best a"), console.answer("losses a")], ["leave", "leave:0"])
        console.answer("open a done mix ( end )")
        self.assertEqual([console.answer("best a"), console.answer("losses a")], ["-", "-"])
        console.answer("open a free mix ( step 1 ( 1 end ) )")
        console.answer("leave a")
        self.assertEqual([console.answer("best a"), console.answer("losses a")], ["-", "-"])

    def test_losses_and_telling(self):
        console = opened()
        self.assertEqual(console.answer("losses a"), "0:3/2 1:0 leave:7")
        console.answer("open a done mix ( all ( step 2 ( 1/2 step 4 ( ) ) step 3 ( 1 end ) ) )")
        self.assertEqual(console.answer("losses a"), "0.0:3/2 0.1:0")
        self.assertEqual(console.answer("tell a"), "first 7 changed 0 paid 0 passed 0 lost 0 left 7 weight 1")
        console.answer("open a done mix ( step 0 ( 1/2 step 3 ( 1 end ) 1/2 end ) step -5/3 ( 1/3 end ) )")
        console.answer("do a 0 1")
        console.answer("come a step -1/7 ( 1 end )")
        day = console.day("a")
        self.assertEqual(console.answer("tell a"), " ".join([word + " " + format_fraction(amount) for word, amount in (
            ("first", day.first), ("changed", day.changed), ("paid", day.paid), ("passed", day.passed), ("lost", day.lost),
            ("left", day.to_come), ("weight", day.weight))]))
        self.assertEqual(console.answer("tell a"),
                         "first -1/6 changed -1/42 paid 0 passed 2/3 lost 0 left -6/7 weight 1/2")

    def test_lines_of_random_days(self):
        source = random.Random(301)
        for _ in range(30):
            habit = source.choice(("done", "free"))
            mix = random_fitting_mix(source, habit)
            console, day = Console(), Day(mix, habit=habit)
            self.assertEqual(console.answer("open x " + habit + " " + format_mix(mix)), "ok")
            for _ in range(8):
                count = len(day.deeds())
                random_deed(source, day)
                for deed in day.deeds()[count:]:
                    words = format_day(day).split("\n")[-1].split(" ")
                    self.assertEqual(console.answer(" ".join(words[:1] + ["x"] + words[1:])), "ok", deed)
                self.assertEqual(seen(console.day("x")), seen(day))
                self.assertEqual(console.answer("log x"), format_day(day))
                losses = ["leave" if place is None else ".".join(map(str, place)) for place, _ in day.losses()]
                self.assertEqual([word.split(":")[0] for word in console.answer("losses x").split(" ")], losses or ["-"])

    def test_long_integers(self):
        console = opened()
        text = "step 999999999999/1000 ( 1/999999999999 end )"
        for _ in range(50):
            self.assertEqual([console.answer("put a 0 " + text), console.answer("do a 0 0")], ["ok", "ok"])
        self.assertRegex(console.answer("tell a"), r"weight 1/[0-9]{500,}$")
        self.assertEqual(format_term(console.day("a").term(0)), "end")


class Days(Case):
    def test_names(self):
        console = Console()
        self.assertEqual(console.names(), [])
        for name in ("b", "c", "a", "ab"):
            console.answer("open " + name + " done mix ( end )")
        self.assertEqual(console.names(), ["a", "ab", "b", "c"])
        console.names().append("x")
        self.assertEqual(console.names(), ["a", "ab", "b", "c"])
        self.assertEqual(console.answer("names"), "a ab b c")
        self.assertEqual(Console().names(), [])

    def test_days_that_are_kept(self):
        console = opened()
        self.assertEqual([console.is_open("a"), console.is_open(value="b")], [True, False])
        day = console.day(name="a")
        self.assertIs(console.day("a"), day)
        # What is done with it is done with the console's.
        day.go(0)
        self.assertEqual(console.answer("log a"), OPEN.replace("open a", "day") + "\ngo 0")
        for value in ODD + ["b", "A", ["a"], ("a",), None, ""]:
            self.assertIs(console.is_open(value), False)
            self.refuses(NoDay, console.day, [value])
        self.assertEqual(outcome_of(Console().day, "a"), ("raised", "NoDay", "a"))
