"""The names, files and arguments of the interface, and point 2."""

import ast
import importlib
import inspect
import unittest

from nodoubt.reader import Reader

INTERFACE = {
    "nodoubt.errors": {
        "BadValue": ["name"], "TooLarge": ["what"], "NotPossible": ["why"], "TextError": ["column", "words"],
    },
    "nodoubt.expressions": {
        "is_expression": ["value"], "is_long": ["value"], "is_word": ["value"], "matches": ["expression", "word"],
        "places": ["expression"], "sizes": ["expression"],
    },
    "nodoubt.simple": {
        "turned": ["expression"], "renamed": ["expression", "order"], "simple": ["expression"],
        "least_length": ["expression"], "greatest_length": ["expression"],
    },
    "nodoubt.markings": {
        "first_places": ["expression"], "last_places": ["expression"], "following": ["expression", "place"],
        "candidates": ["expression", "word"], "count_markings": ["expression", "word"],
        "first_marking": ["expression", "word"], "is_marking": ["expression", "word", "value"],
        "wrong_evidence": ["expression", "word"], "accepts_wrong": ["expression", "word", "value"],
    },
    "nodoubt.doubts": {
        "is_sure": ["expression"], "conflicts": ["expression"], "first_doubt": ["expression"],
        "doubt_word": ["expression"], "accepts_doubt": ["expression", "value"], "guide": ["expression"],
        "accepts_guide": ["expression", "value"], "places_read": ["expression", "word"],
    },
    "nodoubt.automata": {
        "is_automaton": ["value"], "automaton_of": ["expression"], "first_words": ["expression"],
        "state_behind": ["expression", "word"], "count_words": ["expression", "length"],
    },
    "nodoubt.judging": {
        "automaton_evidence": ["expression"], "accepts_automaton": ["expression", "automaton", "value"],
    },
    "nodoubt.comparing": {
        "is_included": ["first", "second"], "are_equal": ["first", "second"], "telling_word": ["first", "second"],
        "told_relation": ["first", "second"], "accepts_equal": ["first", "second", "value"],
        "accepts_included": ["first", "second", "value"], "accepts_telling": ["first", "second", "value"],
    },
    "nodoubt.listing": {
        "count_up_to": ["expression", "length"], "nth_word": ["expression", "index"],
        "number_of": ["expression", "word"], "words_from": ["expression", "index", "many"],
    },
    "nodoubt.orbits": {
        "is_system": ["value"], "system_of": ["automaton"], "reached": ["system", "state"], "orbits": ["system"],
        "goes_round": ["system", "state"], "gates": ["system", "state"], "exits": ["system", "state"],
        "unlike_gates": ["system"], "consistent": ["system"], "cut": ["system"],
    },
    "nodoubt.inward": {
        "inward": ["system", "state"], "is_path": ["system", "value"], "behind": ["system", "path"],
        "is_stuck": ["system"], "is_smooth": ["system"], "simple_paths": ["system"], "first_reason": ["system"],
        "accepts_reason": ["system", "value"],
    },
    "nodoubt.making": {
        "made": ["expression"], "count_made": ["expression"], "made_behind": ["expression", "word"],
    },
    "nodoubt.certificates": {
        "certificate": ["expression"], "shortest_never": ["expression"], "accepts": ["expression", "value"],
        "can_be_sure": ["expression"],
    },
    "nodoubt.colors": {
        "separates": ["expression", "value"], "color_number": ["expression"], "told_coloring": ["expression"],
        "greatest_crowd": ["expression"], "accepts_colors": ["expression", "number", "value"],
        "color_grounds": ["expression"],
    },
    "nodoubt.choices": {
        "parts_conflicts": ["expression", "value"], "smallest_choice": ["expression"], "told_round": ["expression"],
        "accepts_round": ["expression", "value"],
    },
    "nodoubt.scanning": {"scan": ["text"]},
    "nodoubt.reading": {
        "next_tokens": ["text", "kind"], "read_expression": ["text"], "read_long": ["text"], "read_word": ["text"],
    },
    "nodoubt.writing": {"expression_text": ["expression"], "word_text": ["word"]},
    "nodoubt.reader": {"Reader": ["expression"]},
    "nodoubt.journals": {"replayed": ["expression", "journal"], "are_right": ["expression", "records"]},
}

# What the document says is a list; everything else is none.
LISTS = ["candidates", "conflicts", "orbits", "simple_paths", "words_from", "scan", "next_tokens"]

METHODS = {
    "act": ["command"], "undo": [], "word": [], "places": [], "journal": [], "may_follow": [], "may_end": [],
    "first_rest": [], "records": [], "twin": [],
}

ARGUMENTS = {
    "expression": ("many", ("or", ("a", "b"))), "word": "aba", "order": "bcda", "place": 1, "value": (0, 1, 0),
    "length": 3, "first": ("many", "a"), "second": ("maybe", "b"), "automaton": ((True,), ((0, "a", 0),)),
    "index": 5, "many": 3, "system": ((0, 1), ((0, "a", 1), (1, "b", 0)), (0, 1)), "state": 1, "path": (0, 1),
    "number": 1, "text": "a b", "kind": "word", "journal": (("read", "a"), ("back",)), "records": ((("read", "a"), 0, "b"),),
}


def compared(value):
    """The value, or what a reader tells, as readers are not compared."""
    return [value.word(), value.journal(), value.records()] if isinstance(value, Reader) else value



class Interface(unittest.TestCase):
    def test_names(self):
        for module, names in INTERFACE.items():
            found = importlib.import_module(module)
            for name, arguments in names.items():
                function = getattr(found, name)
                self.assertEqual(function.__module__, module)
                self.assertEqual(list(inspect.signature(function).parameters), arguments)

    def test_equal_calls_return_equal_results(self):
        for module, names in INTERFACE.items():
            if module != "nodoubt.errors":
                for name, arguments in names.items():
                    function = getattr(importlib.import_module(module), name)
                    given = {each: ARGUMENTS[each] for each in arguments}
                    first = compared(function(**given))
                    self.assertEqual(compared(function(*given.values())), first)
                    self.assertEqual(given, {each: ARGUMENTS[each] for each in arguments})

    def test_methods(self):
        for name, arguments in METHODS.items():
            method = vars(Reader)[name]
            self.assertEqual(list(inspect.signature(method).parameters), ["self"] + arguments)
            self.assertEqual(method.__module__, "nodoubt.reader")

    def test_what_is_listed_is_defined_in_its_own_file(self):
        for module, names in INTERFACE.items():
            tree = ast.parse(inspect.getsource(importlib.import_module(module)))
            defined = [node.name for node in tree.body if isinstance(node, (ast.FunctionDef, ast.ClassDef))]
            self.assertEqual([name for name in names if name not in defined], [])

    def test_lists_are_new_and_tuples_are_tuples(self):
        for module, names in INTERFACE.items():
            if module != "nodoubt.errors":
                for name, arguments in names.items():
                    function = getattr(importlib.import_module(module), name)
                    given = [ARGUMENTS[each] for each in arguments]
                    found = function(*given)
                    self.assertEqual(type(found) is list, name in LISTS, name)
                    if name in LISTS:
                        before = list(found)
                        found.append(None)
                        self.assertEqual(function(*given), before, name)
                        self.assertIsNot(function(*given), function(*given))
