import random
import unittest

from onenumber.errors import BadMix, BadTerm, BadText
from onenumber.termtexts import format_mix, format_term, parse_mix, parse_term
from onenumber.terms import is_mix, is_term, parts, steps
from tests.values import END, HALF, LEAF, ODD, ONE, deep_step, random_term

TREE = ("step", (3, 1), ((HALF, END), ((1, 4), ("step", (-1, 1), ()))))
TREE_TEXT = "step 3 ( 1/2 end 1/4 step -1 ( ) )"
PAYS = {"0": (0, 1), "7": (7, 1), "-7": (-7, 1), "10": (10, 1), "1/2": (1, 2), "-3/10": (-3, 10),
        "999999999999/100000000000": (999999999999, 100000000000), "-999999999999": (-999999999999, 1)}
NO_PAYS = ["", "-", "/", "+1", "01", "00", "-0", "-01", "1/", "/2", "1/1", "2/4", "0/1", "0/2", "-0/2", "1/0", "1/-2",
           "1/02", "01/2", "--1", "1/2/3", "1.5", "1,5", "x", "1x", "1_000", "1\n", "\n", "1/2\n", "1000000000000",
           "1/1000000000000", "-1000000000000", "1000000000000/7", "(", ")", "end", "1e3", "1/+2"]


def viable_end(words, mixed):
    """A text that words begin, with as few parts as there are, or None: by a stack of what must still come."""
    stack = ["MIX"] if mixed else ["TERM"]
    for word in words:
        if not stack:
            return None
        top = stack.pop()
        if top == "MIX" and word == "mix":
            stack += ["TERMS 0 1 4", "("]
        elif top == "(" and word == "(":
            pass
        elif top == "PAY" and is_amount(word):
            pass
        elif top.startswith("TERMS"):
            done, least, most = map(int, top.split()[1:])
            if word == ")" and done >= least:
                continue
            if done == most or not begin_term(word, stack + [f"TERMS {done + 1} {least} {most}"], stack):
                return None
        elif top.startswith("OUTCOMES"):
            done = int(top.split()[1])
            if word == ")":
                continue
            if done == 3 or not is_amount(word) or word[0] in "-0":
                return None
            stack += [f"OUTCOMES {done + 1}", "TERM"]
        elif top != "TERM" or not begin_term(word, stack, stack):
            return None
    rest = []
    while stack:
        top = stack.pop()
        done, least = map(int, top.split()[1:3]) if top.startswith("TERMS") else (0, 0)
        rest += {"MIX": ["mix", "(", "end", ")"], "(": ["("], "PAY": ["1"], "TERM": ["end"]}.get(
            top, ["end"] * (least - done) + [")"])
    return " ".join(words + rest)


def begin_term(word, behind, stack):
    """Puts on a stack what must come behind the first word of a term, ahead of what is behind it."""
    more = {"end": [], "all": ["TERMS 0 2 3", "("], "step": ["OUTCOMES 0", "(", "PAY"]}.get(word)
    if more is None:
        return False
    stack[:] = behind + more
    return True


def is_amount(word):
    top, slash, bottom = word.partition("/")
    unsigned = top[1:] if top[:1] == "-" else top
    for part in [unsigned, bottom] if slash else [unsigned]:
        if not part or len(part) > 12 or any([sign not in "0123456789" for sign in part]) or str(int(part)) != part:
            return False
    if top == "-0":
        return False
    if slash and (int(bottom) < 2 or any([int(unsigned) % k == int(bottom) % k == 0 for k in range(2, 40)])):
        return False
    return True


def built(words):
    """The term that is told by words in which no bound has been looked at."""
    word = words.pop(0)
    if word == "end":
        return END
    if word == "all":
        words.pop(0)
        members = []
        while words[0] != ")":
            members.append(built(words))
        words.pop(0)
        return ("all", tuple(members))
    pay = amount(words.pop(0))
    words.pop(0)
    outcomes = []
    while words[0] != ")":
        weight = amount(words.pop(0))
        outcomes.append((weight, built(words)))
    words.pop(0)
    return ("step", pay, tuple(outcomes))


def amount(word):
    top, _, bottom = word.partition("/")
    return (int(top), int(bottom or "1"))


def is_text(text, mixed):
    words = text.split(" ")
    if not mixed:
        return is_term(built(words))
    words = words[2:]
    terms = []
    while words[0] != ")":
        terms.append(built(words))
    return is_mix(tuple(terms))


def wrong_word(text, mixed):
    """The number of the first word such that with it the words begin no text; the words' number if none is."""
    words = text.split(" ")
    low, high = 0, len(words)
    while low < high:
        middle = (low + high + 1) // 2
        whole = viable_end(words[:middle], mixed)
        if whole is None or not is_text(whole, mixed):
            high = middle - 1
        else:
            low = middle
    return low


class Formatting(unittest.TestCase):
    def test_terms(self):
        self.assertEqual(format_term(END), "end")
        self.assertEqual(format_term(LEAF), "step 1 ( )")
        self.assertEqual(format_term(TREE), TREE_TEXT)
        self.assertEqual(format_term(("all", (END, LEAF, END))), "all ( end step 1 ( ) end )")
        for word in PAYS:
            self.assertEqual(format_term(("step", PAYS[word], ())), f"step {word} ( )")

    def test_mixes(self):
        self.assertEqual(format_mix((END,)), "mix ( end )")
        self.assertEqual(format_mix((TREE, END)), f"mix ( {TREE_TEXT} end )")

    def test_long_fractions(self):
        self.assertEqual(format_term(("step", (10 ** 60, 10 ** 59 + 1), ())),
                         "step 1" + "0" * 60 + "/1" + "0" * 58 + "1 ( )")
        self.assertEqual(format_term(("step", (-(10 ** 9000) - 5, 1), ())), "step -1" + "0" * 8999 + "5 ( )")

    def test_errors(self):
        for value in ODD:
            if not is_term(value):
                with self.assertRaises(BadTerm) as caught:
                    format_term(value)
                self.assertIs(caught.exception.value, value)
            if not is_mix(value):
                with self.assertRaises(BadMix) as caught:
                    format_mix(value)
                self.assertIs(caught.exception.value, value)


class Parsing(unittest.TestCase):
    def raises(self, position, text):
        with self.assertRaises(BadText) as caught:
            parse_term(text)
        self.assertEqual((caught.exception.value, caught.exception.value is False), (position, False), text)

    def raises_mix(self, position, text):
        with self.assertRaises(BadText) as caught:
            parse_mix(text)
        self.assertEqual(caught.exception.value, position, text)

    def test_there_and_back(self):
        source = random.Random(22)
        for _ in range(300):
            term = random_term(source)
            self.assertEqual(parse_term(format_term(term)), term)
            mix = tuple([random_term(source, 12) for _ in range(source.randint(1, 4))])
            if is_mix(mix):
                self.assertEqual(parse_mix(format_mix(mix)), mix)
        self.assertEqual(parse_term(TREE_TEXT), TREE)
        self.assertEqual(parse_term("all ( end end )"), ("all", (END, END)))

    def test_no_strings(self):
        for value in ODD:
            if not isinstance(value, str):
                self.raises(0, value)
                self.raises_mix(0, value)
            elif value != "end":
                self.raises(1 if value == "step" else 0, value)
                self.raises_mix(0, value)

    def test_fractions(self):
        for word in PAYS:
            self.assertEqual(parse_term(f"step {word} ( )"), ("step", PAYS[word], ()))
        for word in NO_PAYS:
            self.raises(1, f"step {word} ( )")
            self.raises(3, f"step 1 ( {word} end )" if word != ")" else "step 1 ( -1 end )")
        for word in ("1", "1/2", "7/3", "999999999999/999999999998"):
            self.assertEqual(format_term(parse_term(f"step 0 ( {word} end )")), f"step 0 ( {word} end )")
        for word in ("0", "-1", "-1/2"):
            self.raises(3, f"step 1 ( {word} end )")

    def test_wrong_words(self):
        self.raises(3, "step 3 ( 2/4 end )")
        self.raises(0, "")
        self.raises(0, " ")
        self.raises(0, " end")
        self.raises(0, "END")
        self.raises(0, "(")
        self.raises(0, "mix ( end )")
        self.raises(1, "end ")
        self.raises(1, "end end")
        self.raises(0, "end\n")
        self.raises(0, "end\nend")
        self.raises(1, "all end end")
        self.raises(2, "all ( )")
        self.raises(3, "all ( end )")
        self.raises(5, "all ( end end end end )")
        self.raises(6, "all ( end end end ) end")
        self.raises(2, "step 1 1/2 end")
        self.raises(3, "step 1 ( end )")
        self.raises(4, "step 1 ( 1/2 )")
        self.raises(5, "step 1 ( 1/2 end end )")
        self.raises(9, "step 1 ( 1/2 end 1/2 end 1/2 end 1/2 end )")
        self.raises(2, "step 1  ( )")
        self.raises(4, "step 1 ( ) )")
        self.raises(4, "step 1 ( ) ")

    def test_lacking_words(self):
        words = "all ( step 3 ( 1/2 end 1/4 step -1 ( ) ) all ( end end end ) end )".split(" ")
        for count in range(1, len(words)):
            self.raises(count, " ".join(words[:count]))
        words = "mix ( step 3 ( 1/2 end ) end )".split(" ")
        for count in range(1, len(words)):
            self.raises_mix(count, " ".join(words[:count]))

    def test_mixes(self):
        self.assertEqual(parse_mix("mix ( end )"), (END,))
        self.assertEqual(parse_mix("mix ( end end end end )"), (END,) * 4)
        self.raises_mix(0, "end")
        self.raises_mix(1, "mix end")
        self.raises_mix(2, "mix ( )")
        self.raises_mix(6, "mix ( end end end end end )")
        self.raises_mix(4, "mix ( end ) ")
        self.raises_mix(4, "mix ( end ) )")
        self.raises_mix(2, "mix ( mix ( end ) )")
        self.raises_mix(2, "mix (  end )")


class Bounds(unittest.TestCase):
    raises, raises_mix = Parsing.raises, Parsing.raises_mix

    def test_steps(self):
        text = format_term(deep_step(16))
        self.assertEqual(parse_term(text), deep_step(16))
        longer = "step 1 ( 1/2 " * 16
        self.raises(64, longer + "step 1 ( )" + " )" * 16)
        self.raises(64, longer + "step")
        self.raises(65, longer + "end")

    def test_parts(self):
        # Each "all" ( end .. adds two parts, and the last one needs one more.
        text = "all ( end " * 23 + "end" + " )" * 23
        self.assertEqual(len(parts(parse_term(text))), 47)
        self.raises(23 * 3, "all ( end " * 24 + "end" + " )" * 24)
        self.raises(23 * 3, "all ( end " * 23 + "all")
        self.assertEqual(len(parts(parse_term("all ( end " * 23 + "end end" + " )" * 23))), 48)
        self.raises(23 * 3 + 3, "all ( end " * 23 + "end end ) end")
        self.raises(23 * 3 + 3, "all ( end " * 23 + "end end ) all")
        # A weight is wrong where its term could no longer come.
        self.assertEqual(len(parts(parse_term("all ( end " * 23 + "step 1 ( 1 end )" + " )" * 23))), 48)
        self.raises(23 * 3 + 5, "all ( end " * 23 + "step 1 ( 1 end 1 end )" + " )" * 23)

    def test_parts_of_a_mix(self):
        whole = "all ( end " * 23 + "end end" + " )" * 23
        last = 2 + len(whole.split(" "))
        self.assertTrue(is_mix(parse_mix(f"mix ( {whole} {whole} )")))
        self.raises_mix(2 * last - 2, f"mix ( {whole} {whole} end )")
        self.raises_mix(2 * last - 2, f"mix ( {whole} {whole} all")
        self.assertEqual(len(parse_mix(f"mix ( {whole} end end {'all ( end ' * 22}end{' )' * 22} )")), 4)
        self.raises_mix(last + 2 + 22 * 3, f"mix ( {whole} end end {'all ( end ' * 22}all")

    def test_steps_of_a_mix(self):
        seven = "step 1 ( 1/2 " * 7 + "end" + " )" * 7
        length = len(seven.split(" "))
        both = f"mix ( {seven} {seven}"
        self.assertEqual(len(parse_mix(both + " step 1 ( ) step 1 ( ) )")), 4)
        self.raises_mix(2 * length + 2 + 9, both + " step 1 ( 1 step 1 ( ) ) step 1 ( ) )")

    def test_by_completing_each_beginning(self):
        source = random.Random(23)
        words = ["end", "step", "all", "(", ")", "1", "1/2", "0", "-1", "2/4", "", "mix", "x", "3/7"]
        for _ in range(3000):
            mixed = source.random() < 0.4
            if mixed:
                terms = [random_term(source, 40) for _ in range(source.randint(1, 4))]
                told = ["mix", "("] + [word for term in terms for word in format_term(term).split(" ")] + [")"]
            else:
                told = format_term(random_term(source, 60)).split(" ")
            for _ in range(source.randint(0, 2)):
                at = source.randint(0, len(told))
                kind = source.randint(0, 3)
                if kind == 0:
                    told[at:at + 1] = []
                elif kind == 1:
                    told[at:at] = [source.choice(words)]
                elif kind == 2:
                    told[at:at + 1] = [source.choice(words)]
                elif told:
                    spot = source.randint(0, len(told))
                    told[at:at] = told[spot:spot + source.randint(1, 60)]
            self.judge(" ".join(told), mixed)

    def test_beginnings_at_random(self):
        source = random.Random(24)
        words = ["end", "step", "all", "all", "(", ")", "1", "1/2"]
        for number in range(120):
            mixed = number % 2 == 0
            told = ["mix", "("] if mixed else []
            for _ in range(400):
                word = source.choice(words)
                if len(told) < 130 and viable_end(told + [word], mixed) is not None:
                    told.append(word)
            self.judge(" ".join(told), mixed)

    def judge(self, text, mixed):
        position = wrong_word(text, mixed)
        count = len(text.split(" "))
        try:
            value = (parse_mix if mixed else parse_term)(text)
        except BadText as error:
            self.assertEqual(error.value, position, text)
        else:
            self.assertEqual((position, viable_end(text.split(" "), mixed)), (count, text))
            self.assertEqual((format_mix if mixed else format_term)(value), text)


if __name__ == "__main__":
    unittest.main()
