"""The errors of the package: one class for each kind of failure."""


class MixError(ValueError):
    """All errors of the package are under this one; each keeps one value, and the name of its class."""

    def __init__(self, value):
        # The value is not shown in the message: Python refuses to write integers of thousands of digits.
        ValueError.__init__(self, "the field value tells what is wrong")
        self.value = value
        self.kind = self.__class__.__name__


class BadFraction(MixError):
    """A value is no fraction."""

    def __init__(self, value):
        MixError.__init__(self, value)


class BadPair(MixError):
    """A value is no pair."""

    def __init__(self, value):
        MixError.__init__(self, value)


class BadPairs(MixError):
    """A value is no list or tuple of at most 80 pairs."""

    def __init__(self, value):
        MixError.__init__(self, value)


class BadTerm(MixError):
    """A value is no term."""

    def __init__(self, value):
        MixError.__init__(self, value)


class BadMix(MixError):
    """A value is no mix."""

    def __init__(self, value):
        MixError.__init__(self, value)


class BadPlace(MixError):
    """A value is no place of what it is asked for."""

    def __init__(self, value):
        MixError.__init__(self, value)


class BadText(MixError):
    """The words begin no text from the word of this number on."""

    def __init__(self, value):
        MixError.__init__(self, value)


class BadLadder(MixError):
    """A value is no ladder."""

    def __init__(self, value):
        MixError.__init__(self, value)


class BadLadders(MixError):
    """A value is no tuple of ladders."""

    def __init__(self, value):
        MixError.__init__(self, value)


class NoFrame(MixError):
    """Pairs have no frame: the value is a ring of them."""

    def __init__(self, value):
        MixError.__init__(self, value)


class BadHabit(MixError):
    """A value is no habit, or not the one that is asked for."""

    def __init__(self, value):
        MixError.__init__(self, value)


class BadChoice(MixError):
    """The choice of this number is none."""

    def __init__(self, value):
        MixError.__init__(self, value)


class BadCourse(MixError):
    """A value is no course."""

    def __init__(self, value):
        MixError.__init__(self, value)


class BadTerms(MixError):
    """A value is no tuple of terms."""

    def __init__(self, value):
        MixError.__init__(self, value)


class NoFit(MixError):
    """Terms do not fit together by a habit."""

    def __init__(self, value):
        MixError.__init__(self, value)


class NoCompany(MixError):
    """A ladder does not go with terms."""

    def __init__(self, value):
        MixError.__init__(self, value)


class BadWays(MixError):
    """A value is no tuple of ways."""

    def __init__(self, value):
        MixError.__init__(self, value)


class BadNumber(MixError):
    """A value is not the number of a way or a term."""

    def __init__(self, value):
        MixError.__init__(self, value)


class BadForest(MixError):
    """A value is no forest."""

    def __init__(self, value):
        MixError.__init__(self, value)


class BadOrder(MixError):
    """A value is no order of a forest."""

    def __init__(self, value):
        MixError.__init__(self, value)


class BadJoin(MixError):
    """A value is no join."""

    def __init__(self, value):
        MixError.__init__(self, value)


class BadRow(MixError):
    """A value is no row of a join."""

    def __init__(self, value):
        MixError.__init__(self, value)


class BadTable(MixError):
    """A value is no table of a join."""

    def __init__(self, value):
        MixError.__init__(self, value)


class BadBox(MixError):
    """A value is no box."""

    def __init__(self, value):
        MixError.__init__(self, value)


class BadBoxes(MixError):
    """A value is no tuple of boxes."""

    def __init__(self, value):
        MixError.__init__(self, value)


class BadSeen(MixError):
    """A value does not tell what was seen in boxes."""

    def __init__(self, value):
        MixError.__init__(self, value)


class BadProject(MixError):
    """A value is no project."""

    def __init__(self, value):
        MixError.__init__(self, value)


class BadShare(MixError):
    """A value is no share."""

    def __init__(self, value):
        MixError.__init__(self, value)


class BadYard(MixError):
    """A value is no yard."""

    def __init__(self, value):
        MixError.__init__(self, value)


class BadPlan(MixError):
    """A value is no plan of a yard."""

    def __init__(self, value):
        MixError.__init__(self, value)


class BadWorked(MixError):
    """A value does not tell how long projects have been worked on."""

    def __init__(self, value):
        MixError.__init__(self, value)


class BadGroup(MixError):
    """A value is no group of tests."""

    def __init__(self, value):
        MixError.__init__(self, value)


class BadGroupOrder(MixError):
    """A value is no order of a group."""

    def __init__(self, value):
        MixError.__init__(self, value)


class BadCondition(MixError):
    """A value is no condition."""

    def __init__(self, value):
        MixError.__init__(self, value)


class BadStanding(MixError):
    """A value is no standing of a condition."""

    def __init__(self, value):
        MixError.__init__(self, value)


class BadValue(MixError):
    """A value is no fraction that is asked for."""

    def __init__(self, value):
        MixError.__init__(self, value)


class BadFirst(MixError):
    """A value is no first deed."""

    def __init__(self, value):
        MixError.__init__(self, value)


class BadOutcome(MixError):
    """A value is no outcome of a step."""

    def __init__(self, value):
        MixError.__init__(self, value)


class DayOver(MixError):
    """A day is over: the value is the number of its standing deeds."""

    def __init__(self, value):
        MixError.__init__(self, value)


class NoDeed(MixError):
    """There is no deed to undo, or none to redo."""

    def __init__(self, value):
        MixError.__init__(self, value)


class BadMark(MixError):
    """A value is no name, or none by which something is noted."""

    def __init__(self, value):
        MixError.__init__(self, value)


class BadLine(MixError):
    """The line of this number is wrong."""

    def __init__(self, value):
        MixError.__init__(self, value)


class NoDay(MixError):
    """No day is kept by a name."""

    def __init__(self, value):
        MixError.__init__(self, value)


class TooMany(MixError):
    """There is more than the value, a limit."""

    def __init__(self, value):
        MixError.__init__(self, value)
