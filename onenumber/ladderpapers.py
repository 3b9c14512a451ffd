"""Papers: the ladders of all parts of a term, and the judge of them."""

from onenumber.frames import has_frame, require_frame
from onenumber.ladders import is_ladder
from onenumber.numbers import ladders_of_parts, pairs_for_frame
from onenumber.terms import require_term


def paper(term):
    """The list of the ladders of a term's parts, in the sequence of parts."""
    require_term(term)
    require_frame(pairs_for_frame([term]))
    return ladders_of_parts(term)


def is_paper(term, value):
    """Whether any value is the right paper of a term."""
    require_term(term)
    if not isinstance(value, list) or not has_frame(pairs_for_frame([term])):
        return False
    # A ladder follows from those beneath it in one way, and that of a part without parts from nothing.
    if value != ladders_of_parts(term):
        return False
    # True and 1 are equal, but not of one kind.
    return all(is_ladder(entry) for entry in value)
