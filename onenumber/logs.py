"""Logs of days: texts of a day's beginning and its standing deeds, line by line, and the accounts that come of them."""

from onenumber.amounts import is_fraction
from onenumber.days import Day
from onenumber.deedtexts import deed_text, do_deed, parse_beginning, parse_deed
from onenumber.errors import BadLine, MixError
from onenumber.termtexts import mix_text

FIRST_WORD = "day "


def day_of_line(line):
    """The day at first of the first line of a log."""
    told = parse_beginning(line.removeprefix(FIRST_WORD)) if line.startswith(FIRST_WORD) else None
    if told is None:
        raise BadLine(0)
    try:
        return Day(told[1], habit=told[0])
    except MixError as error:
        raise BadLine(0) from error


def do_line(day, line, number):
    """Does the deed of the line of this number."""
    deed = parse_deed(line)
    if deed is None:
        raise BadLine(number)
    try:
        do_deed(day, deed)
    except MixError as error:
        raise BadLine(number) from error


def entry_of(day):
    return (day.paid, day.passed, day.lost, day.changed, day.to_come)


def gone_through(text):
    """The day of any value as a log, and its account."""
    if not isinstance(text, str):
        raise BadLine(0)
    lines = text.split("\n")
    day = day_of_line(lines[0])
    entries = [entry_of(day)]
    for number, line in enumerate(lines[1:], start=1):
        do_line(day, line, number)
        entries.append(entry_of(day))
    return (day, entries)


def format_day(day):
    """The log of a day."""
    first = FIRST_WORD + day.first_habit + " " + mix_text(day.first_mix)
    return "\n".join([first] + [deed_text(deed) for deed in day.deeds()])


def parse_day(text):
    """A day that has a log."""
    return gone_through(text)[0]


def is_log(value):
    """Whether any value is a log."""
    try:
        parse_day(value)
    except BadLine:
        return False
    return True


def account(text):
    """The account of a log."""
    return gone_through(text)[1]


def is_account(text, value):
    """Whether any value is the account of a log."""
    right = account(text)
    # True and 1 are equal, but not of one kind.
    return value == right and all(is_fraction(part) for entry in value for part in entry)
