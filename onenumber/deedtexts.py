"""Texts of places, outcomes and deeds, as they stand in the lines of logs and consoles."""

from onenumber.errors import BadText
from onenumber.termtexts import are_figures, figures, parse_mix, parse_term, term_words
from onenumber.worths import is_habit

NO_OUTCOME = "-"


def place_text(place):
    return ".".join([figures(number) for number in place])


def outcome_text(outcome):
    return NO_OUTCOME if outcome is None else figures(outcome)


def deed_text(deed):
    """The line of a deed."""
    kind = deed[0]
    if kind == "do":
        words = [place_text(deed[1]), outcome_text(deed[2])]
    elif kind == "come":
        words = term_words(deed[1])
    elif kind == "go":
        words = [figures(deed[1])]
    elif kind == "put":
        words = [figures(deed[1])] + term_words(deed[2])
    else:
        words = list(deed[1:])
    return " ".join([kind] + words)


def are_place_figures(word):
    return all(are_figures(part) for part in word.split("."))


def term_or_none(text):
    """The term that has a text, or None."""
    try:
        return parse_term(text)
    except BadText:
        return None


def mix_or_none(text):
    """The mix that has a text, or None."""
    try:
        return parse_mix(text)
    except BadText:
        return None


def parse_doing(text):
    words = text.split(" ")
    if len(words) != 2 or not are_place_figures(words[0]):
        return None
    place = tuple([int(part) for part in words[0].split(".")])
    if words[1] == NO_OUTCOME:
        return ("do", place, None)
    return ("do", place, int(words[1])) if are_figures(words[1]) else None


def parse_coming(text):
    term = term_or_none(text)
    return None if term is None else ("come", term)


def parse_going(text):
    return ("go", int(text)) if are_figures(text) else None


def parse_putting(text):
    number, _, rest = text.partition(" ")
    term = term_or_none(rest)
    return ("put", int(number), term) if are_figures(number) and term is not None else None


def parse_habit(text):
    return ("habit", text) if is_habit(text) else None


PARSERS = {"do": parse_doing, "come": parse_coming, "go": parse_going, "put": parse_putting, "habit": parse_habit}


def parse_deed(line):
    """The deed that a line tells, whether it can be done or not; None for a line that is not of this form."""
    if line == "leave":
        return ("leave",)
    kind, _, rest = line.partition(" ")
    parse = PARSERS.get(kind)
    return None if parse is None else parse(rest)


def parse_beginning(text):
    """The tuple (habit, mix) that a text tells, or None."""
    habit, _, rest = text.partition(" ")
    mix = mix_or_none(rest)
    return (habit, mix) if is_habit(habit) and mix is not None else None


def do_deed(day, deed):
    """Does a deed of any kind."""
    kind = deed[0]
    if kind == "do":
        day.do(deed[1], deed[2])
    elif kind == "come":
        day.come(deed[1])
    elif kind == "go":
        day.go(deed[1])
    elif kind == "put":
        day.put(deed[1], deed[2])
    elif kind == "habit":
        day.set_habit(deed[1])
    else:
        day.leave()
