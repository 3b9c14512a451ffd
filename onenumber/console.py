"""Consoles: days that are kept by names, and lines that are answered."""

from onenumber.days import Day, is_name
from onenumber.deedtexts import do_deed, parse_beginning, parse_deed, place_text
from onenumber.errors import MixError, NoDay
from onenumber.logs import format_day
from onenumber.termtexts import format_fraction

OK = "ok"
NONE = "-"
WRONG = "? "
DEEDS = ("do", "come", "go", "put", "habit", "leave")
WITH_TWO_NAMES = ("mark", "back", "fork")
ALONE = ("undo", "redo", "close", "best", "losses", "tell", "log")


def deed_place_text(place):
    """A place as in logs, and the word for leaving."""
    return "leave" if place is None else place_text(place)


def joined_words(words):
    return " ".join(words) if words else NONE


def best_text(day):
    return joined_words([deed_place_text(place) for place in day.best()])


def losses_text(day):
    return joined_words([deed_place_text(place) + ":" + format_fraction(loss) for place, loss in day.losses()])


def tell_text(day):
    amounts = (("first", day.first), ("changed", day.changed), ("paid", day.paid), ("passed", day.passed),
               ("lost", day.lost), ("left", day.to_come), ("weight", day.weight))
    return " ".join([word + " " + format_fraction(amount) for word, amount in amounts])


def log_text(day):
    return format_day(day)


QUESTIONS = {"best": best_text, "losses": losses_text, "tell": tell_text, "log": log_text}


def parse_rest(kind, blank, rest):
    """What a line tells behind its first name, or None if it is not right; a line that tells nothing more tells ()."""
    if kind in DEEDS:
        return parse_deed(kind + blank + rest)
    if kind in WITH_TWO_NAMES:
        return rest if is_name(rest) else None
    if kind == "open":
        return parse_beginning(rest)
    return () if kind in ALONE and not blank else None


def parse_line(line):
    """The tuple (kind, name, what is told behind it) of a right line but "names", None for any other value."""
    if not isinstance(line, str):
        return None
    kind, _, behind = line.partition(" ")
    name, blank, rest = behind.partition(" ")
    told = parse_rest(kind, blank, rest)
    return (kind, name, told) if is_name(name) and told is not None else None


def do_in_day(day, kind, told):
    """Does what a line says that touches one day alone."""
    if kind == "undo":
        day.undo()
    elif kind == "redo":
        day.redo()
    elif kind == "mark":
        day.mark(told)
    elif kind == "back":
        day.back(told)
    else:
        do_deed(day, told)


class Console:
    """Keeps days by names, and answers lines."""

    def __init__(self):
        self._days = {}

    def answer(self, line):
        """The answer to any value as a line."""
        if line == "names":
            return joined_words(self.names())
        parsed = parse_line(line)
        if parsed is None:
            return WRONG + "BadLine"
        kind, name, told = parsed
        if kind != "open" and not self.is_open(name):
            return WRONG + "NoDay"
        try:
            return self._answer_to(kind, name, told)
        except MixError as error:
            return WRONG + error.kind

    def _answer_to(self, kind, name, told):
        """The answer to a right line."""
        question = QUESTIONS.get(kind)
        if question is not None:
            return question(self._days[name])
        if kind == "open":
            self._days[name] = Day(told[1], habit=told[0])
        elif kind == "fork":
            self._days[told] = self._days[name].fork()
        elif kind == "close":
            del self._days[name]
        else:
            do_in_day(self._days[name], kind, told)
        return OK

    def names(self):
        """The ascending list of the names by which days are kept."""
        return sorted(self._days)

    def is_open(self, value):
        """Whether any value is a name by which a day is kept."""
        return isinstance(value, str) and value in self._days

    def day(self, name):
        """The day that is kept by a name, itself."""
        if not self.is_open(name):
            raise NoDay(name)
        return self._days[name]
