"""The errors of the package: one class for each kind of failure."""


class MixError(ValueError):
    """All errors of the package are under this one; each keeps one value."""

    def __init__(self, value):
        # The value is not shown in the message: Python refuses to write integers of thousands of digits.
        ValueError.__init__(self, "the field value tells what is wrong")
        self.value = value


class BadFraction(MixError):
    """A value is no fraction."""


class BadPair(MixError):
    """A value is no pair."""


class BadPairs(MixError):
    """A value is no list or tuple of at most 80 pairs."""


class BadTerm(MixError):
    """A value is no term."""


class BadMix(MixError):
    """A value is no mix."""


class BadPlace(MixError):
    """A value is no place of what it is asked for."""


class BadText(MixError):
    """The words begin no text from the word of this number on."""


class BadLadder(MixError):
    """A value is no ladder."""


class BadLadders(MixError):
    """A value is no tuple of ladders."""


class NoFrame(MixError):
    """Pairs have no frame: the value is a ring of them."""


class BadHabit(MixError):
    """A value is no habit, or not the one that is asked for."""


class BadChoice(MixError):
    """The choice of this number is none."""


class BadCourse(MixError):
    """A value is no course."""


class BadTerms(MixError):
    """A value is no tuple of terms."""


class NoFit(MixError):
    """Terms do not fit together by a habit."""


class NoCompany(MixError):
    """A ladder does not go with terms."""


class BadWays(MixError):
    """A value is no tuple of ways."""


class BadNumber(MixError):
    """A value is not the number of a way or a term."""


class BadForest(MixError):
    """A value is no forest."""


class BadOrder(MixError):
    """A value is no order of a forest."""


class BadJoin(MixError):
    """A value is no join."""


class BadRow(MixError):
    """A value is no row of a join."""


class BadTable(MixError):
    """A value is no table of a join."""


class BadBox(MixError):
    """A value is no box."""


class BadBoxes(MixError):
    """A value is no tuple of boxes."""


class BadSeen(MixError):
    """A value does not tell what was seen in boxes."""


class BadProject(MixError):
    """A value is no project."""


class BadShare(MixError):
    """A value is no share."""


class BadYard(MixError):
    """A value is no yard."""


class BadPlan(MixError):
    """A value is no plan of a yard."""


class BadWorked(MixError):
    """A value does not tell how long projects have been worked on."""


class BadGroup(MixError):
    """A value is no group of tests."""


class BadGroupOrder(MixError):
    """A value is no order of a group."""


class BadCondition(MixError):
    """A value is no condition."""


class BadStanding(MixError):
    """A value is no standing of a condition."""


class BadValue(MixError):
    """A value is no fraction that is asked for."""


class BadFirst(MixError):
    """A value is no first deed."""


class BadOutcome(MixError):
    """A value is no outcome of a step."""


class DayOver(MixError):
    """A day is over: the value is the number of its standing deeds."""


class NoDeed(MixError):
    """There is no deed to undo, or none to redo."""


class BadMark(MixError):
    """A value is no name, or none by which something is noted."""


class BadLine(MixError):
    """The line of this number is wrong."""


class NoDay(MixError):
    """No day is kept by a name."""


class TooMany(MixError):
    """There is more than the value, a limit."""
