"""What several tests of days need: all that is told of a day, and random deeds."""

from onenumber.days import Day
from onenumber.errors import MixError
from onenumber.places import front, term_at
from tests.values import outcome_of, random_fitting_mix, random_framed_term

HABITS = ("done", "free")
AMOUNTS = ("mix", "habit", "weight", "paid", "passed", "lost", "changed", "first", "to_come", "is_over")


def seen(day):
    """All that is told of a day."""
    told = {name: getattr(day, name) for name in AMOUNTS}
    told.update(deeds=day.deeds(), losses=day.losses(), best=day.best())
    return told


def undone(day):
    """What of a day's deeds is undone, found on a fork."""
    other = day.fork()
    count = len(other.deeds())
    while outcome_of(other.redo)[0] == "returned":
        pass
    return other.deeds()[count:]


def all_of(day):
    return seen(day), undone(day)


def random_deed(source, day):
    """Tries any deed; whether it was let."""
    kind = source.choice(["do"] * 6 + ["come", "come", "go", "put", "habit", "leave"])
    try:
        if kind == "do":
            places = front(day.mix)
            if not places:
                return False
            place = source.choice(places)
            outcomes = term_at(day.mix[place[0]], place[1:])[2]
            day.do(place, source.randrange(len(outcomes)) if outcomes else None)
        elif kind == "come":
            day.come(random_framed_term(source, 8))
        elif kind == "go":
            day.go(source.randrange(len(day.mix)))
        elif kind == "put":
            day.put(source.randrange(len(day.mix)), random_framed_term(source, 8))
        elif kind == "habit":
            day.set_habit(source.choice(HABITS))
        elif source.randint(0, 3) == 0:
            day.leave()
    except MixError:
        return False
    return True


def random_day(source, count=8):
    habit = source.choice(HABITS)
    day = Day(random_fitting_mix(source, habit), habit=habit)
    for _ in range(count):
        random_deed(source, day)
    return day
