"""The interface as a whole: its names, the names of its arguments, and what holds for all of its functions."""

import copy
import importlib
import inspect
import unittest

from onenumber.errors import MixError
from tests.values import END, HALF, LEAF, ODD, outcome_of

PAIR = ((1, 1), (1, 2))
TREE = ("step", (3, 1), ((HALF, END), ((1, 4), LEAF)))
LADDER = (((4, 1), (1, 2)), ((1, 2), (1, 2)))

# For each function: its arguments by name, right ones, and which errors it may raise for any value.
# An argument for whose kind no error is told is in OWN_KIND: only its entries may be any value.
FUNCTIONS = {
    "amounts": {
        "is_fraction": {"value": (1, 2)}, "fraction": {"top": 6, "bottom": -4},
        "plus": {"one": (1, 2), "other": (1, 3)}, "minus": {"one": (1, 2), "other": (1, 3)},
        "times": {"one": (1, 2), "other": (1, 3)}, "over": {"one": (1, 2), "other": (1, 3)},
        "compare": {"one": (1, 2), "other": (1, 3)},
    },
    "pairs": {
        "is_pair": {"value": PAIR}, "is_ahead": {"one": PAIR, "other": PAIR}, "are_level": {"one": PAIR, "other": PAIR},
        "total": {"pairs": [PAIR]}, "spread": {"pair": PAIR, "share": (1, 2)},
    },
    "frames": {
        "witness": {"pairs": [PAIR]}, "is_witness": {"pairs": [PAIR], "value": PAIR},
        "ring": {"pairs": [PAIR]}, "is_ring": {"pairs": [PAIR], "value": ((0, (1, 1)),)},
    },
    "terms": {
        "is_term": {"value": TREE}, "is_mix": {"value": (TREE,)}, "parts": {"term": TREE}, "steps": {"term": TREE},
        "pairs_of": {"term": TREE}, "pair_of": {"step": TREE}, "is_toss": {"value": TREE}, "in_order": {"term": TREE},
        "are_rearranged": {"one": TREE, "other": TREE},
    },
    "places": {
        "places": {"term": TREE}, "step_places": {"term": TREE}, "term_at": {"term": TREE, "place": (1,)},
        "put_at": {"term": TREE, "place": (1,), "other": END}, "front": {"mix": (TREE,)},
        "after": {"mix": (TREE,), "place": (0,)}, "count_histories": {"term": TREE}, "histories": {"term": TREE},
    },
    "termtexts": {
        "format_term": {"term": TREE}, "format_mix": {"mix": (TREE,)}, "parse_term": {"text": "end"},
        "parse_mix": {"text": "mix ( end )"},
    },
    "ladders": {
        "is_ladder": {"value": LADDER}, "pays": {"ladder": LADDER}, "left": {"ladder": LADDER},
        "chain": {"ladder": LADDER}, "is_same_frame": {"ladders": [LADDER]},
    },
    "algebra": {
        "put_together": {"rungs": [PAIR]}, "glue": {"pair": PAIR, "rungs": [PAIR]},
        "side_by_side": {"ladders": [LADDER]}, "blend": {"shares": [(HALF, LADDER)]},
    },
}
OWN_KIND = {("pairs", "total", "pairs"), ("ladders", "is_same_frame", "ladders"), ("algebra", "put_together", "rungs"),
            ("algebra", "glue", "rungs"), ("algebra", "side_by_side", "ladders"), ("algebra", "blend", "shares")}
# What an error may be, by the function's file; places.py raises some for its terms, too.
ERRORS = {
    "amounts": {"BadFraction"}, "pairs": {"BadPair", "BadFraction"}, "frames": {"BadPairs"}, "terms": {"BadTerm"},
    "places": {"BadTerm", "BadPlace", "BadMix", "TooMany"}, "termtexts": {"BadTerm", "BadMix", "BadText"},
    "ladders": {"BadLadder", "TooMany"}, "algebra": {"BadPair", "BadLadder", "TooMany", "NoFrame"},
}


def listed():
    for file in FUNCTIONS:
        for name in FUNCTIONS[file]:
            yield file, name, getattr(importlib.import_module(f"onenumber.{file}"), name), FUNCTIONS[file][name]


def lists_within(value):
    """The lists and dicts that a value has, itself too."""
    found = [value] if isinstance(value, (list, dict)) else []
    for entry in value if isinstance(value, (list, tuple)) else ():
        found.extend(lists_within(entry))
    return found


class Interface(unittest.TestCase):
    def test_names_and_arguments(self):
        for file, name, function, arguments in listed():
            self.assertTrue(inspect.isfunction(function), name)
            self.assertEqual(function.__module__, f"onenumber.{file}", name)
            self.assertEqual(list(inspect.signature(function).parameters), list(arguments), name)
            self.assertEqual(function(**arguments), function(*arguments.values()), name)

    def test_calls_made_again(self):
        for _, name, function, arguments in listed():
            first, second = function(**arguments), function(**copy.deepcopy(arguments))
            self.assertEqual(first, second, name)
            for one in lists_within(first):
                for other in lists_within(second) + lists_within(list(arguments.values())):
                    self.assertIsNot(one, other, name)

    def test_arguments_stay(self):
        for _, name, function, arguments in listed():
            kept = copy.deepcopy(arguments)
            function(**arguments)
            self.assertEqual(arguments, kept, name)

    def test_any_value_gets_its_answer_or_its_error(self):
        for file, name, function, arguments in listed():
            for argument in arguments:
                if (file, name, argument) not in OWN_KIND:
                    for value in ODD:
                        self.judge(file, name, function, {**arguments, argument: value})

    def test_any_entry_gets_its_answer_or_its_error(self):
        for file, name, function, arguments in listed():
            for argument in arguments:
                if (file, name, argument) in OWN_KIND:
                    for value in ODD:
                        for entries in ([value], (value, value), [arguments[argument][0], value]):
                            self.judge(file, name, function, {**arguments, argument: entries})

    def judge(self, file, name, function, arguments):
        told = outcome_of(lambda: function(**arguments))
        if told[0] == "raised":
            self.assertIn(told[1], ERRORS[file], name)
        elif name.startswith(("is_", "are_")):
            self.assertIn(told[1], (True, False), name)
            self.assertIsInstance(told[1], bool, name)
        self.assertEqual(outcome_of(lambda: function(**arguments)), told, name)

    def test_errors_are_mix_errors(self):
        for file in ERRORS:
            for name in ERRORS[file]:
                self.assertTrue(issubclass(getattr(importlib.import_module("onenumber.errors"), name), MixError))


if __name__ == "__main__":
    unittest.main()
