"""Texts of terms and mixes: words with one blank between them."""

from onenumber.amounts import is_fraction
from onenumber.errors import BadText
from onenumber.terms import (
    END,
    MOST_MIX_PARTS,
    MOST_PARTS,
    MOST_STEPS,
    MOST_TERMS,
    is_step,
    require_mix,
    require_term,
)

CHUNK = 10 ** 60
CHUNK_FIGURES = 60
MOST_FIGURES = 12


def figures(number):
    """An integer from 0 on in figures, of whatever length."""
    # In pieces, since Python refuses to write integers of thousands of digits at once.
    pieces = []
    while number >= CHUNK:
        number, low = divmod(number, CHUNK)
        pieces.append(str(low).zfill(CHUNK_FIGURES))
    pieces.append(str(number))
    return "".join(pieces[::-1])


def format_fraction(amount):
    """A fraction as it is written in texts."""
    top, bottom = amount
    sign = "-" if top < 0 else ""
    below = "" if bottom == 1 else "/" + figures(bottom)
    return sign + figures(abs(top)) + below


def are_figures(word):
    """Whether a string is an integer in at most twelve figures, without a 0 ahead of other ones."""
    if not 1 <= len(word) <= MOST_FIGURES or (word[0] == "0" and word != "0"):
        return False
    return all(sign in "0123456789" for sign in word)


def parse_fraction(word):
    """The fraction that a word is, or None."""
    above, slash, below = word.partition("/")
    unsigned = above.removeprefix("-")
    if not are_figures(unsigned) or above == "-0":
        return None
    if not slash:
        return (int(above), 1)
    if not are_figures(below) or below == "1":
        return None
    amount = (int(above), int(below))
    return amount if is_fraction(amount) else None


def term_words(term):
    """The list of the words of a term's text."""
    if is_step(term):
        words = ["step", format_fraction(term[1]), "("]
        for weight, inner in term[2]:
            words.append(format_fraction(weight))
            words.extend(term_words(inner))
        return words + [")"]
    if term[0] == "all":
        return ["all"] + list_words(term[1])
    return ["end"]


def list_words(terms):
    words = ["("]
    for term in terms:
        words.extend(term_words(term))
    return words + [")"]


def mix_text(mix):
    return " ".join(["mix"] + list_words(mix))


class Reader:
    """Reads words one by one, and raises BadText at the first one that does not go on."""

    def __init__(self, text):
        if not isinstance(text, str):
            raise BadText(0)
        self.words = text.split(" ")
        self.at = 0
        self.step_count = 0
        # Parts are counted as soon as they must come: those of the term that is read, and of all.
        self.term_parts = 0
        self.all_parts = 0

    def peek(self):
        if self.at == len(self.words):
            raise BadText(self.at)
        return self.words[self.at]

    def expect(self, word):
        if self.peek() != word:
            raise BadText(self.at)
        self.at += 1

    def count_parts(self, more):
        """Counts parts that must come by the word that is looked at."""
        self.term_parts += more
        self.all_parts += more
        if self.term_parts > MOST_PARTS or self.all_parts > MOST_MIX_PARTS:
            raise BadText(self.at)

    def read_whole_term(self):
        """Reads a term that stands within no other one."""
        self.term_parts = 0
        self.count_parts(1)
        return self.read_term()

    def read_term(self):
        """Reads a term that has been counted as one part."""
        word = self.peek()
        if word == "step":
            return self.read_step()
        if word == "all":
            return self.read_members()
        self.expect("end")
        return END

    def read_step(self):
        self.step_count += 1
        if self.step_count > MOST_STEPS:
            raise BadText(self.at)
        self.expect("step")
        pay = self.read_pay()
        self.expect("(")
        outcomes = []
        while len(outcomes) < 3 and self.peek() != ")":
            weight = self.read_weight()
            outcomes.append((weight, self.read_term()))
        self.expect(")")
        return ("step", pay, tuple(outcomes))

    def read_pay(self):
        pay = parse_fraction(self.peek())
        if pay is None:
            raise BadText(self.at)
        self.at += 1
        return pay

    def read_weight(self):
        """Reads the weight of an outcome, whose term must come then."""
        weight = parse_fraction(self.peek())
        if weight is None or weight[0] <= 0:
            raise BadText(self.at)
        self.count_parts(1)
        self.at += 1
        return weight

    def read_members(self):
        self.count_parts(2)
        self.expect("all")
        self.expect("(")
        members = [self.read_term(), self.read_term()]
        if self.peek() != ")":
            self.count_parts(1)
            members.append(self.read_term())
        self.expect(")")
        return ("all", tuple(members))

    def read_mix(self):
        self.expect("mix")
        self.expect("(")
        terms = [self.read_whole_term()]
        while len(terms) < MOST_TERMS and self.peek() != ")":
            terms.append(self.read_whole_term())
        self.expect(")")
        return tuple(terms)

    def finish(self):
        if self.at < len(self.words):
            raise BadText(self.at)


def format_term(term):
    """The text of a term."""
    require_term(term)
    return " ".join(term_words(term))


def format_mix(mix):
    """The text of a mix."""
    require_mix(mix)
    return mix_text(mix)


def parse_term(text):
    """The term that has a text."""
    reader = Reader(text)
    term = reader.read_whole_term()
    reader.finish()
    return term


def parse_mix(text):
    """The mix that has a text."""
    reader = Reader(text)
    mix = reader.read_mix()
    reader.finish()
    return mix
