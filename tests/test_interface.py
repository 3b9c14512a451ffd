"""The interface as a whole: its names, the names of its arguments, and what holds for all of its functions."""

import copy
import importlib
import inspect
import unittest

from onenumber.console import Console
from onenumber.days import Day
from onenumber.errors import MixError
from tests.values import END, HALF, LEAF, ODD, outcome_of

PAIR = ((1, 1), (1, 2))
TREE = ("step", (3, 1), ((HALF, END), ((1, 4), LEAF)))
LADDER = (((4, 1), (1, 2)), ((1, 2), (1, 2)))
FOREST = ((None, (2, 1), HALF), (0, (1, 1), HALF))
JOIN = (((2, 1), (3, 1)), ((0, 1, HALF),))
BOX = ((1, 1), ((HALF, (6, 1)), (HALF, (0, 1))))
YARD = (HALF, (((2, 1), (1, 2)), ((1, 1),)))
GROUP = (((1, 1), HALF, None), ((4, 1), (1, 4), 0))
LOG = "day free mix ( step 3 ( 1 end ) )\ndo 0 0\nleave"

# For each function: its arguments by name, right ones, and which errors it may raise for any value.
# An argument for whose kind no error is told is in OWN_KIND: only its entries may be any value.
FUNCTIONS = {
    "amounts": {
        "is_fraction": {"value": (1, 2)}, "fraction": {"top": 6, "bottom": -4},
        "plus": {"one": (1, 2), "other": (1, 3)}, "minus": {"one": (1, 2), "other": (1, 3)},
        "times": {"one": (1, 2), "other": (1, 3)}, "over": {"one": (1, 2), "other": (1, 3)},
        "compare": {"one": (1, 2), "other": (1, 3)},
    },
    "pairs": {
        "is_pair": {"value": PAIR}, "is_ahead": {"one": PAIR, "other": PAIR}, "are_level": {"one": PAIR, "other": PAIR},
        "total": {"pairs": [PAIR]}, "spread": {"pair": PAIR, "share": (1, 2)},
    },
    "frames": {
        "witness": {"pairs": [PAIR]}, "is_witness": {"pairs": [PAIR], "value": PAIR},
        "ring": {"pairs": [PAIR]}, "is_ring": {"pairs": [PAIR], "value": ((0, (1, 1)),)},
    },
    "terms": {
        "is_term": {"value": TREE}, "is_mix": {"value": (TREE,)}, "parts": {"term": TREE}, "steps": {"term": TREE},
        "pairs_of": {"term": TREE}, "pair_of": {"step": TREE}, "is_toss": {"value": TREE}, "in_order": {"term": TREE},
        "are_rearranged": {"one": TREE, "other": TREE},
    },
    "places": {
        "places": {"term": TREE}, "step_places": {"term": TREE}, "term_at": {"term": TREE, "place": (1,)},
        "put_at": {"term": TREE, "place": (1,), "other": END}, "front": {"mix": (TREE,)},
        "after": {"mix": (TREE,), "place": (0,)}, "count_histories": {"term": TREE}, "histories": {"term": TREE},
    },
    "termtexts": {
        "format_term": {"term": TREE}, "format_mix": {"mix": (TREE,)}, "parse_term": {"text": "end"},
        "parse_mix": {"text": "mix ( end )"},
    },
    "ladders": {
        "is_ladder": {"value": LADDER}, "pays": {"ladder": LADDER}, "left": {"ladder": LADDER},
        "chain": {"ladder": LADDER}, "is_same_frame": {"ladders": [LADDER]},
    },
    "algebra": {
        "put_together": {"rungs": [PAIR]}, "glue": {"pair": PAIR, "rungs": [PAIR]},
        "side_by_side": {"ladders": [LADDER]}, "blend": {"shares": [(HALF, LADDER)]},
    },
    "numbers": {"ladder_of": {"term": TREE}, "numbers": {"term": TREE}, "mix_ladder": {"mix": (TREE,)}},
    "ladderpapers": {"paper": {"term": TREE}, "is_paper": {"term": END, "value": [()]}},
    "worths": {
        "ladder_worth": {"ladder": LADDER, "habit": "free"}, "worth": {"mix": (TREE,), "habit": "done"},
        "company_worth": {"ladders": (LADDER,), "habit": "done"},
        "beside": {"ladder": LADDER, "pay": (1, 2), "factor": (1, 3), "habit": "free"},
    },
    "rules": {
        "front_numbers": {"mix": (TREE,), "habit": "done"}, "rule_step": {"mix": (TREE,), "habit": "done"},
        "rule_walk": {"mix": (TREE,), "habit": "done", "choices": [0]}, "rule_worth": {"mix": (TREE,), "habit": "free"},
    },
    "states": {"size": {"mix": (TREE,)}, "states": {"mix": (TREE,)}},
    "floors": {
        "floors": {"mix": (TREE,), "habit": "done"}, "floor": {"mix": (TREE,), "habit": "done"},
        "best_steps": {"mix": (TREE,), "habit": "free"},
        "is_cover": {"mix": (LEAF,), "habit": "done", "value": [(1, 1)]},
        "is_floors": {"mix": (LEAF,), "habit": "done", "value": [(1, 1)]},
        "course_worths": {"mix": (TREE,), "habit": "free", "course": [(0,), None, (0,)]},
        "best_course": {"mix": (TREE,), "habit": "free"},
    },
    "companies": {
        "goes_with": {"terms": (TREE,), "company": LADDER, "habit": "free"},
        "worth_in": {"term": TREE, "company": LADDER, "habit": "free"}, "paying": {"ladder": LADDER},
        "counted": {"term": TREE, "habit": "free"}, "alike": {"one": TREE, "other": TREE, "habit": "done"},
        "lots": {"terms": (TREE, END, TREE), "habit": "done"},
    },
    "parting": {
        "parting": {"one": TREE, "other": LEAF, "habit": "done"},
        "is_parting": {"one": TREE, "other": LEAF, "habit": "done", "value": ()},
    },
    "dominance": {
        "never_worse": {"one": TREE, "other": LEAF, "habit": "done"},
        "worse_in": {"one": TREE, "other": LEAF, "habit": "free"},
        "is_worse_in": {"one": END, "other": LEAF, "habit": "done", "value": ()},
        "between": {"one": TREE, "other": LEAF, "habit": "done"},
    },
    "ways": {
        "best_in": {"ways": (TREE, LEAF), "company": LADDER, "habit": "done"},
        "best_everywhere": {"ways": (TREE, LEAF), "habit": "done"},
        "ladder_of_ways": {"ways": (TREE, LEAF), "habit": "free"},
        "two_companies": {"ways": (TREE, LEAF), "habit": "free"},
        "beaten_in": {"ways": (TREE, LEAF), "number": 1, "habit": "done"},
    },
    "waypapers": {
        "way_paper": {"ways": (TREE, LEAF), "habit": "done"},
        "is_way_paper": {"ways": (TREE, LEAF), "habit": "done", "value": ("one", 0)},
        "best_lists": {"ways": (TREE, LEAF), "companies": [LADDER, ()], "habit": "done"},
    },
    "forests": {
        "is_forest": {"value": FOREST}, "forest_term": {"forest": FOREST},
        "is_order": {"forest": FOREST, "value": [0, 1]}, "order_worth": {"forest": FOREST, "order": [0, 1]},
        "best_worth": {"forest": FOREST}, "best_order": {"forest": FOREST}, "right_cut": {"forest": FOREST},
        "is_right_cut": {"forest": FOREST, "value": [[0], [1]]},
    },
    "joins": {
        "is_join": {"value": JOIN}, "is_row": {"join": JOIN, "value": [0, 1]}, "row_cost": {"join": JOIN, "row": [0, 1]},
        "hung": {"join": JOIN, "first": 1}, "join_term": {"join": JOIN, "first": 1}, "least_cost": {"join": JOIN},
        "least_row": {"join": JOIN}, "least_from": {"join": JOIN, "first": 1},
    },
    "boxes": {
        "is_box": {"value": BOX}, "is_boxes": {"value": (BOX, BOX)}, "box_term": {"box": BOX}, "reserve": {"box": BOX},
        "boxes_worth": {"boxes": (BOX, BOX)}, "best_moves": {"boxes": (BOX, BOX), "seen": (None, 0)},
        "worth_of": {"boxes": (BOX, BOX), "seen": (None, 0)},
    },
    "projects": {
        "is_project": {"value": ((2, 1), (1, 2))}, "is_yard": {"value": YARD},
        "project_term": {"share": HALF, "project": ((2, 1), (1, 2))},
        "falling": {"share": HALF, "project": ((2, 1), (1, 2))}, "yard_terms": {"yard": YARD}, "yard_worth": {"yard": YARD},
        "best_plan": {"yard": YARD}, "is_plan": {"yard": YARD, "value": [0, 1]}, "plan_worth": {"yard": YARD, "plan": [0, 1]},
        "next_projects": {"yard": YARD, "worked": (1, 0)},
    },
    "conditions": {
        "is_group": {"value": GROUP}, "is_condition": {"value": (GROUP,)}, "is_group_order": {"group": GROUP, "value": [0, 1]},
        "group_cost": {"group": GROUP, "order": [0, 1]}, "group_term": {"group": GROUP, "order": [0, 1]},
        "least_order": {"group": GROUP}, "condition_terms": {"condition": (GROUP,)}, "condition_cost": {"condition": (GROUP,)},
        "is_standing": {"condition": (GROUP,), "value": ((True, None),)},
        "open_tests": {"condition": (GROUP,), "standing": ((True, None),)},
        "best_tests": {"condition": (GROUP,), "standing": ((True, None),)},
        "cost_left": {"condition": (GROUP,), "standing": ((True, None),)},
    },
    "spans": {
        "pieces": {"mix": (TREE,), "spot": (0, 1), "habit": "free"}, "turns": {"mix": (TREE,), "spot": (0, 1), "habit": "free"},
        "worth_at": {"mix": (TREE,), "spot": (0, 1), "habit": "free", "value": (1, 2)},
        "firsts": {"mix": (TREE,), "spot": (0, 1), "habit": "free"},
        "regret": {"mix": (TREE,), "spot": (0, 1), "habit": "free", "first": (0,), "low": (1, 2), "high": (3, 1)},
        "guard": {"mix": (TREE,), "spot": (0, 1), "habit": "free", "low": (1, 2), "high": (3, 1)},
    },
    "logs": {
        "format_day": {"day": Day((TREE,))}, "parse_day": {"text": LOG}, "is_log": {"value": LOG}, "account": {"text": LOG},
        "is_account": {"text": LOG, "value": []},
    },
}
# What returns a new object, and no value that could be compared.
NEW_OBJECTS = {("logs", "parse_day")}
# For each class: its methods, with their arguments and, for those that may be called by a new object, right ones.
CLASSES = {
    ("days", "Day"): {
        "__init__": {"mix": (TREE, END), "habit": "free"}, "set_habit": {"habit": "done"}, "do": {"place": (0,), "outcome": 1},
        "come": {"term": LEAF}, "go": {"number": 0}, "term": {"number": 1}, "put": {"number": 1, "term": LEAF}, "leave": {},
        "deeds": {}, "undo": {}, "redo": {}, "mark": {"name": "a"}, "back": {"name": "a"}, "is_marked": {"value": "a"},
        "losses": {}, "best": {}, "fork": {}, "run": {"choices": [0]},
    },
    ("console", "Console"): {
        "__init__": {}, "answer": {"line": "names"}, "names": {}, "is_open": {"value": "a"}, "day": {"name": "a"},
    },
}
PROPERTIES = ("mix", "habit", "weight", "paid", "passed", "lost", "changed", "first", "to_come", "is_over")
OWN_KIND = {("pairs", "total", "pairs"), ("ladders", "is_same_frame", "ladders"), ("algebra", "put_together", "rungs"),
            ("algebra", "glue", "rungs"), ("algebra", "side_by_side", "ladders"), ("algebra", "blend", "shares"),
            ("rules", "rule_walk", "choices"), ("waypapers", "best_lists", "companies"), ("logs", "format_day", "day")}
# What an error may be, by the function's file; places.py raises some for its terms, too.
ERRORS = {
    "amounts": {"BadFraction"}, "pairs": {"BadPair", "BadFraction"}, "frames": {"BadPairs"}, "terms": {"BadTerm"},
    "places": {"BadTerm", "BadPlace", "BadMix", "TooMany"}, "termtexts": {"BadTerm", "BadMix", "BadText"},
    "ladders": {"BadLadder", "TooMany"}, "algebra": {"BadPair", "BadLadder", "TooMany", "NoFrame"},
    "numbers": {"BadTerm", "BadMix", "NoFrame"}, "ladderpapers": {"BadTerm", "NoFrame"},
    "worths": {"BadLadder", "BadMix", "BadLadders", "BadFraction", "BadHabit", "NoFrame"},
    "rules": {"BadMix", "BadHabit", "NoFrame", "BadChoice"}, "states": {"BadMix", "TooMany"},
    "floors": {"BadMix", "BadHabit", "TooMany", "BadCourse"},
    "companies": {"BadTerms", "BadTerm", "BadLadder", "BadHabit", "NoFit", "NoCompany"},
    "parting": {"BadTerm", "BadHabit", "NoFit"}, "dominance": {"BadTerm", "BadHabit", "NoFit"},
    "ways": {"BadWays", "BadLadder", "BadHabit", "NoFit", "NoCompany", "BadNumber"},
    "waypapers": {"BadWays", "BadLadder", "BadHabit", "NoFit", "NoCompany"}, "forests": {"BadForest", "BadOrder", "NoFrame"},
    "joins": {"BadJoin", "BadRow", "BadTable"}, "boxes": {"BadBox", "BadBoxes", "BadSeen"},
    "projects": {"BadShare", "BadProject", "BadYard", "BadPlan", "BadWorked"},
    "conditions": {"BadGroup", "BadGroupOrder", "BadCondition", "BadStanding"},
    "spans": {"BadMix", "BadPlace", "BadHabit", "BadFirst", "BadValue", "TooMany"}, "logs": {"BadLine"},
}
# The errors of functions of several arguments, in their sequence: the argument, its error, and a wrong value.
SEQUENCES = {
    ("ladderpapers", "is_paper"): [("term", "BadTerm", "no")],
    ("worths", "ladder_worth"): [("ladder", "BadLadder", 5), ("habit", "BadHabit", 6)],
    ("worths", "worth"): [("mix", "BadMix", 5), ("habit", "BadHabit", 6)],
    ("worths", "company_worth"): [("ladders", "BadLadders", 5), ("habit", "BadHabit", 6)],
    ("worths", "beside"): [("ladder", "BadLadder", 5), ("pay", "BadFraction", 6), ("factor", "BadFraction", (-1, 2)),
                           ("habit", "BadHabit", 7)],
    ("rules", "front_numbers"): [("mix", "BadMix", 5), ("habit", "BadHabit", 6)],
    ("rules", "rule_step"): [("mix", "BadMix", 5), ("habit", "BadHabit", 6)],
    ("rules", "rule_walk"): [("mix", "BadMix", 5), ("habit", "BadHabit", 6)],
    ("rules", "rule_worth"): [("mix", "BadMix", 5), ("habit", "BadHabit", 6)],
    ("floors", "floors"): [("mix", "BadMix", 5), ("habit", "BadHabit", 6)],
    ("floors", "floor"): [("mix", "BadMix", 5), ("habit", "BadHabit", 6)],
    ("floors", "best_steps"): [("mix", "BadMix", 5), ("habit", "BadHabit", 6)],
    ("floors", "is_cover"): [("mix", "BadMix", 5), ("habit", "BadHabit", 6)],
    ("floors", "is_floors"): [("mix", "BadMix", 5), ("habit", "BadHabit", 6)],
    ("floors", "course_worths"): [("mix", "BadMix", 5), ("habit", "BadHabit", 6), ("course", "BadCourse", 7)],
    ("floors", "best_course"): [("mix", "BadMix", 5), ("habit", "BadHabit", 6)],
    ("companies", "goes_with"): [("terms", "BadTerms", 5), ("company", "BadLadder", 6), ("habit", "BadHabit", 7)],
    ("companies", "worth_in"): [("term", "BadTerm", 5), ("company", "BadLadder", 6), ("habit", "BadHabit", 7)],
    ("companies", "counted"): [("term", "BadTerm", 5), ("habit", "BadHabit", 6)],
    ("companies", "alike"): [("one", "BadTerm", 5), ("other", "BadTerm", 6), ("habit", "BadHabit", 7)],
    ("companies", "lots"): [("terms", "BadTerms", 5), ("habit", "BadHabit", 6)],
    ("parting", "parting"): [("one", "BadTerm", 5), ("other", "BadTerm", 6), ("habit", "BadHabit", 7)],
    ("parting", "is_parting"): [("one", "BadTerm", 5), ("other", "BadTerm", 6), ("habit", "BadHabit", 7)],
    ("dominance", "never_worse"): [("one", "BadTerm", 5), ("other", "BadTerm", 6), ("habit", "BadHabit", 7)],
    ("dominance", "worse_in"): [("one", "BadTerm", 5), ("other", "BadTerm", 6), ("habit", "BadHabit", 7)],
    ("dominance", "is_worse_in"): [("one", "BadTerm", 5), ("other", "BadTerm", 6), ("habit", "BadHabit", 7)],
    ("dominance", "between"): [("one", "BadTerm", 5), ("other", "BadTerm", 6), ("habit", "BadHabit", 7)],
    ("ways", "best_in"): [("ways", "BadWays", 5), ("company", "BadLadder", 6), ("habit", "BadHabit", 7)],
    ("ways", "best_everywhere"): [("ways", "BadWays", 5), ("habit", "BadHabit", 6)],
    ("ways", "ladder_of_ways"): [("ways", "BadWays", 5), ("habit", "BadHabit", 6)],
    ("ways", "two_companies"): [("ways", "BadWays", 5), ("habit", "BadHabit", 6)],
    ("ways", "beaten_in"): [("ways", "BadWays", 5), ("habit", "BadHabit", 6), ("number", "BadNumber", 7)],
    ("waypapers", "way_paper"): [("ways", "BadWays", 5), ("habit", "BadHabit", 6)],
    ("waypapers", "is_way_paper"): [("ways", "BadWays", 5), ("habit", "BadHabit", 6)],
    ("waypapers", "best_lists"): [("ways", "BadWays", 5), ("habit", "BadHabit", 6)],
    ("forests", "order_worth"): [("forest", "BadForest", 5), ("order", "BadOrder", 6)],
    ("joins", "row_cost"): [("join", "BadJoin", 5), ("row", "BadRow", 6)],
    ("joins", "hung"): [("join", "BadJoin", 5), ("first", "BadTable", 6)],
    ("joins", "join_term"): [("join", "BadJoin", 5), ("first", "BadTable", 6)],
    ("joins", "least_from"): [("join", "BadJoin", 5), ("first", "BadTable", 6)],
    ("boxes", "best_moves"): [("boxes", "BadBoxes", 5), ("seen", "BadSeen", 6)],
    ("boxes", "worth_of"): [("boxes", "BadBoxes", 5), ("seen", "BadSeen", 6)],
    ("projects", "project_term"): [("share", "BadShare", 5), ("project", "BadProject", 6)],
    ("projects", "falling"): [("share", "BadShare", 5), ("project", "BadProject", 6)],
    ("projects", "plan_worth"): [("yard", "BadYard", 5), ("plan", "BadPlan", 6)],
    ("projects", "next_projects"): [("yard", "BadYard", 5), ("worked", "BadWorked", 6)],
    ("conditions", "group_cost"): [("group", "BadGroup", 5), ("order", "BadGroupOrder", 6)],
    ("conditions", "group_term"): [("group", "BadGroup", 5), ("order", "BadGroupOrder", 6)],
    ("conditions", "open_tests"): [("condition", "BadCondition", 5), ("standing", "BadStanding", 6)],
    ("conditions", "best_tests"): [("condition", "BadCondition", 5), ("standing", "BadStanding", 6)],
    ("conditions", "cost_left"): [("condition", "BadCondition", 5), ("standing", "BadStanding", 6)],
    ("spans", "pieces"): [("mix", "BadMix", 5), ("spot", "BadPlace", 6), ("habit", "BadHabit", 7)],
    ("spans", "turns"): [("mix", "BadMix", 5), ("spot", "BadPlace", 6), ("habit", "BadHabit", 7)],
    ("spans", "worth_at"): [("mix", "BadMix", 5), ("spot", "BadPlace", 6), ("habit", "BadHabit", 7), ("value", "BadValue", 8)],
    ("spans", "firsts"): [("mix", "BadMix", 5), ("spot", "BadPlace", 6), ("habit", "BadHabit", 7)],
    ("spans", "regret"): [("mix", "BadMix", 5), ("spot", "BadPlace", 6), ("habit", "BadHabit", 7), ("first", "BadFirst", 8),
                          ("low", "BadValue", 9), ("high", "BadValue", 10)],
    ("spans", "guard"): [("mix", "BadMix", 5), ("spot", "BadPlace", 6), ("habit", "BadHabit", 7), ("low", "BadValue", 9),
                         ("high", "BadValue", 10)],
}


def listed():
    for file in FUNCTIONS:
        for name in FUNCTIONS[file]:
            yield file, name, getattr(importlib.import_module(f"onenumber.{file}"), name), FUNCTIONS[file][name]


def lists_within(value):
    """The lists and dicts that a value has, itself too."""
    found = [value] if isinstance(value, (list, dict)) else []
    for entry in value if isinstance(value, (list, tuple)) else ():
        found.extend(lists_within(entry))
    return found


def told_of(day):
    return {name: getattr(day, name) for name in PROPERTIES}, day.deeds(), day.losses(), day.best(), day.is_marked("a")


class Interface(unittest.TestCase):
    def test_names_and_arguments(self):
        for file, name, function, arguments in listed():
            self.assertTrue(inspect.isfunction(function), name)
            self.assertEqual(function.__module__, f"onenumber.{file}", name)
            self.assertEqual(list(inspect.signature(function).parameters), list(arguments), name)
            if (file, name) not in NEW_OBJECTS:
                self.assertEqual(function(**arguments), function(*arguments.values()), name)

    def test_calls_made_again(self):
        for file, name, function, arguments in listed():
            first, second = function(**arguments), function(**copy.deepcopy(arguments))
            if (file, name) in NEW_OBJECTS:
                first, second = told_of(first), told_of(second)
            self.assertEqual(first, second, name)
            for one in lists_within(first):
                for other in lists_within(second) + lists_within(list(arguments.values())):
                    self.assertIsNot(one, other, name)

    def test_arguments_stay(self):
        for file, name, function, arguments in listed():
            kept = copy.deepcopy(arguments)
            function(**arguments)
            if (file, name) == ("logs", "format_day"):
                arguments, kept = told_of(arguments["day"]), told_of(kept["day"])
            self.assertEqual(arguments, kept, name)

    def test_any_value_gets_its_answer_or_its_error(self):
        for file, name, function, arguments in listed():
            for argument in arguments:
                if (file, name, argument) not in OWN_KIND:
                    for value in ODD:
                        self.judge(file, name, function, {**arguments, argument: value})

    def test_any_entry_gets_its_answer_or_its_error(self):
        for file, name, function, arguments in listed():
            for argument in arguments:
                if (file, name, argument) in OWN_KIND and (file, name) != ("logs", "format_day"):
                    for value in ODD:
                        for entries in ([value], (value, value), [arguments[argument][0], value]):
                            self.judge(file, name, function, {**arguments, argument: entries})

    def judge(self, file, name, function, arguments):
        told = outcome_of(lambda: function(**arguments))
        if told[0] == "raised":
            self.assertIn(told[1], ERRORS[file], name)
        elif name.startswith(("is_", "are_")):
            self.assertIn(told[1], (True, False), name)
            self.assertIsInstance(told[1], bool, name)
        if (file, name) not in NEW_OBJECTS:
            self.assertEqual(outcome_of(lambda: function(**arguments)), told, name)

    def test_the_error_named_first_is_raised(self):
        for (file, name), sequence in SEQUENCES.items():
            function = getattr(importlib.import_module(f"onenumber.{file}"), name)
            for number in range(len(sequence)):
                wrong = {argument: value for argument, _, value in sequence[number:]}
                told = outcome_of(lambda: function(**{**FUNCTIONS[file][name], **wrong}))
                self.assertEqual(told, ("raised", sequence[number][1], sequence[number][2]), name)

    def test_classes(self):
        for (file, name), methods in CLASSES.items():
            kind = getattr(importlib.import_module(f"onenumber.{file}"), name)
            self.assertTrue(inspect.isclass(kind))
            self.assertEqual(kind.__module__, f"onenumber.{file}")
            for method, arguments in methods.items():
                # Each stands in the body of the class itself.
                self.assertTrue(inspect.isfunction(vars(kind).get(method)), method)
                self.assertEqual(list(inspect.signature(vars(kind)[method]).parameters)[1:], list(arguments), method)
        parameters = inspect.signature(Day).parameters
        self.assertEqual(parameters["habit"].kind, inspect.Parameter.KEYWORD_ONLY)
        self.assertEqual(parameters["habit"].default, "done")
        self.assertIsNone(inspect.signature(Day.do).parameters["outcome"].default)

    def test_methods_by_the_names_of_their_arguments(self):
        for method, arguments in CLASSES["days", "Day"].items():
            days = [Day(mix=(TREE, END), habit="free") for _ in range(2)]
            for day in days:
                day.mark("a")
                day.go(1)
                day.go(1)
                day.undo()
            kept = copy.deepcopy(arguments)
            if method == "__init__":
                continue
            first, second = getattr(days[0], method)(**arguments), getattr(days[1], method)(*arguments.values())
            self.assertEqual(arguments, kept)
            self.assertEqual(told_of(days[0]), told_of(days[1]), method)
            if method == "fork":
                first, second = told_of(first), told_of(second)
            self.assertEqual(first, second, method)
            if method in ("set_habit", "do", "go", "put", "leave", "undo", "redo", "mark", "back"):
                self.assertIsNone(first, method)
        for method, arguments in CLASSES["console", "Console"].items():
            if method != "__init__":
                console = Console()
                console.answer("open a done mix ( end )")
                self.assertEqual(getattr(console, method)(**arguments), getattr(console, method)(*arguments.values()), method)

    def test_what_is_told_of_a_day(self):
        day = Day((TREE,))
        for name in PROPERTIES:
            self.assertTrue(hasattr(day, name), name)

    def test_every_file_is_listed(self):
        self.assertEqual(len(FUNCTIONS) + len(CLASSES), 28)
        for file in FUNCTIONS:
            self.assertIn(file, ERRORS)

    def test_errors_are_mix_errors(self):
        for file in ERRORS:
            for name in ERRORS[file]:
                self.assertTrue(issubclass(getattr(importlib.import_module("onenumber.errors"), name), MixError))


if __name__ == "__main__":
    unittest.main()
