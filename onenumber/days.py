"""Days: a mix that is led deed by deed, with an account of what is paid, passed, lost and changed."""

from onenumber.amounts import ZERO
from onenumber.deeds import (
    after_coming,
    after_going,
    after_habit,
    after_leaving,
    after_putting,
    after_step,
    losses_of,
    moment_at_first,
    number_of_free_term,
    require_room,
    require_term_number,
    run_of_rule,
)
from onenumber.errors import BadMark, DayOver, NoDeed
from onenumber.worths import require_fit

MOST_LETTERS = 12
LETTERS = "abcdefghijklmnopqrstuvwxyz"


def is_name(value):
    """Whether any value is a name."""
    return isinstance(value, str) and 1 <= len(value) <= MOST_LETTERS and all(sign in LETTERS for sign in value)


class Day:
    """Leads a mix by a habit; each standing deed is kept with the moment behind it."""

    def __init__(self, mix, *, habit="done"):
        require_fit(mix, habit)
        self.first_mix = mix
        self.first_habit = habit
        self._beginning = moment_at_first(mix, habit)
        self._marks = {}
        self.first = self._beginning["to_come"]
        self._stand([], [])

    def _stand(self, standing, undone):
        """Makes these the standing deeds and the undone ones, all with their moments."""
        moment = standing[-1][1] if standing else self._beginning
        self._standing = standing
        self._undone = undone
        self._moment = moment
        self.mix = moment["mix"]
        self.habit = moment["habit"]
        self.weight = moment["weight"]
        self.paid = moment["paid"]
        self.passed = moment["passed"]
        self.lost = moment["lost"]
        self.changed = moment["changed"]
        self.to_come = moment["to_come"]
        self.is_over = moment["is_over"]

    def _require_going(self):
        if self.is_over:
            raise DayOver(len(self._standing))

    def _add(self, deed, moment):
        """Adds a deed to the standing ones, unless they are too many."""
        require_room(len(self._standing))
        self._stand(self._standing + [(deed, moment)], [])

    def set_habit(self, habit):
        """The habit changes."""
        self._require_going()
        self._add(("habit", habit), after_habit(self._moment, habit))

    def do(self, place, outcome=None):
        """Does a step at the front, and sees one of its outcomes."""
        self._require_going()
        self._add(("do", place, outcome), after_step(self._moment, place, outcome))

    def come(self, term):
        """A term comes; returns the number that it has in the mix then."""
        self._require_going()
        number = number_of_free_term(self.mix)
        self._add(("come", term), after_coming(self._moment, term))
        return number

    def go(self, number):
        """The term of a number goes."""
        self._require_going()
        self._add(("go", number), after_going(self._moment, number))

    def term(self, number):
        """The term of a number."""
        require_term_number(self._moment, number)
        return self.mix[number]

    def put(self, number, term):
        """Puts a term in the place of the term of a number."""
        self._require_going()
        self._add(("put", number, term), after_putting(self._moment, number, term))

    def leave(self):
        """Leaves the mix, by "free"."""
        self._require_going()
        self._add(("leave",), after_leaving(self._moment))

    def deeds(self):
        """The list of the standing deeds."""
        return [deed for deed, _ in self._standing]

    def undo(self):
        """Takes the last standing deed back."""
        if not self._standing:
            raise NoDeed("undo")
        self._stand(self._standing[:-1], self._undone + self._standing[-1:])

    def redo(self):
        """Does the deed that was undone last again."""
        if not self._undone:
            raise NoDeed("redo")
        self._stand(self._standing + self._undone[-1:], self._undone[:-1])

    def mark(self, name):
        """Notes the list of the standing deeds by a name."""
        if not is_name(name):
            raise BadMark(name)
        self._marks[name] = list(self._standing)

    def back(self, name):
        """Makes the deeds that were noted by a name the standing ones again."""
        if not self.is_marked(name):
            raise BadMark(name)
        self._stand(list(self._marks[name]), [])

    def is_marked(self, value):
        """Whether any value is a name by which something is noted."""
        return is_name(value) and value in self._marks

    def losses(self):
        """The list of the tuples (place, loss) of all steps at the front, and by "free" of None, for leaving."""
        return [] if self.is_over else losses_of(self._moment)

    def best(self):
        """The list of the places, and None for leaving, by which nothing is lost."""
        return [place for place, loss in self.losses() if loss == ZERO]

    def fork(self):
        """A new day with the same beginning, standing deeds, undone deeds and marks."""
        other = Day(self.first_mix, habit=self.first_habit)
        other._marks = {name: list(self._marks[name]) for name in self._marks}
        other._stand(list(self._standing), list(self._undone))
        return other

    def run(self, choices):
        """Does the steps that the rule does, with the outcomes of a list; returns the list of their places."""
        self._require_going()
        done = run_of_rule(self._moment, len(self._standing), choices)
        if done:
            self._stand(self._standing + done, [])
        return [place for (_, place, _), _ in done]
