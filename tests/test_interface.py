"""The names, arguments and constants of the interface, each in the file under which it is listed."""

import importlib
import inspect
import unittest

FUNCTIONS = {
    "forms": {
        "check_number": ["number"],
        "size_of": ["number"],
        "height_of": ["number"],
        "compare": ["first", "second"],
        "sign_of": ["number"],
        "of_int": ["value"],
        "to_int": ["number"],
    },
    "sums": {
        "negate": ["number"],
        "add": ["first", "second"],
        "subtract": ["first", "second"],
        "sum_terms": ["terms"],
    },
    "products": {"shift": ["number", "places"], "multiply": ["first", "second"]},
    "notation": {"number_text": ["number"], "read_number": ["text"]},
    "remainders": {"remainder": ["x", "m"], "power_remainder": ["exponent", "m"], "powers_of_two": ["m"]},
    "digits": {
        "floor_shift": ["x", "y"],
        "digit_at": ["x", "place"],
        "length": ["x"],
        "low": ["x"],
        "digits_from": ["x", "place", "count"],
    },
    "last": {"lead": ["x", "k"], "last_digits": ["x", "k"]},
    "tokens": {"tokens": ["text"]},
    "formulas": {"read_formula": ["text"], "names_of": ["tree"]},
    "plain": {"shown_text": ["x"], "plain_text": ["tree"]},
    "evaluate": {"value_of": ["tree", "values"]},
    "programs": {"run_program": ["text"]},
    "turns": {
        "cycle_of": ["table", "start", "m"],
        "state_behind": ["table", "start", "times", "m"],
        "joined": ["first", "second", "m"],
        "table_behind": ["table", "times", "m"],
    },
    "recur": {"sequence_at": ["factors", "first", "place", "m"], "grown": ["double", "x", "c", "times"]},
    "words": {"is_word": ["letters", "word"], "inverse_word": ["word"]},
    "baum": {
        "is_plain": ["element"],
        "plain": ["element"],
        "multiply_elements": ["first", "second"],
        "inverse_element": ["element"],
        "is_unit": ["word"],
        "are_same": ["first", "second"],
    },
    "baum_trace": {"trace": ["word"], "check_trace": ["word", "steps"]},
    "higman": {"length_of": ["word"], "is_unit": ["word"], "are_same": ["first", "second"]},
    "higman_trace": {"trace": ["word"], "check_trace": ["word", "steps"]},
    "sheet": {"load_sheet": ["text"]},
    "lines": {"read_command": ["line"]},
    "desk": {"run_script": ["script"]},
}
# The methods of each class, with their arguments behind self.
CLASSES = {
    "sheet": {
        "Sheet": {
            "set_cell": ["name", "text"],
            "clear_cell": ["name"],
            "value_at": ["name"],
            "formula_at": ["name"],
            "names": [],
            "renewed": [],
            "image": [],
            "value_of_formula": ["text"],
        },
    },
}
ERRORS = ["NotAllowed", "BadForm", "BadRange", "TooLarge", "Missing", "Ring", "NoSteps"]
CONSTANTS = {
    "forms": {"MAX_SIZE": 300, "MAX_HEIGHT": 40},
    "sums": {"MAX_TERMS": 400},
    "products": {"MAX_PRODUCT": 400},
    "remainders": {"MAX_MODULUS": 10000},
    "digits": {"MAX_COUNT": 64},
    "last": {"MAX_LEAD": 60, "MAX_LAST": 4},
    "tokens": {"MAX_TEXT": 1000},
    "formulas": {"MAX_LEVELS": 30},
    "evaluate": {"MAX_TOWER": 40},
    "programs": {"MAX_STEPS": 2000},
    "turns": {"MAX_TURN_MODULUS": 12},
    "words": {"MAX_WORD": 40},
    "baum": {"UNIT": ((), (), ())},
    "sheet": {"MAX_CELLS": 12},
    "desk": {"MAX_SCRIPT": 3000, "MAX_LINES": 40, "MAX_UNDO": 8},
}


class InterfaceTest(unittest.TestCase):
    def test_functions(self):
        for file, listed in FUNCTIONS.items():
            module = importlib.import_module(f"sandreckoner.{file}")
            for name, arguments in listed.items():
                with self.subTest(name):
                    function = getattr(module, name)
                    self.assertEqual(function.__module__, f"sandreckoner.{file}")
                    self.assertEqual(list(inspect.signature(function).parameters), arguments)

    def test_classes(self):
        for file, listed in CLASSES.items():
            module = importlib.import_module(f"sandreckoner.{file}")
            for name, methods in listed.items():
                own = getattr(module, name)
                self.assertEqual(own.__module__, f"sandreckoner.{file}")
                self.assertEqual(list(inspect.signature(own).parameters), [])
                for method, arguments in methods.items():
                    with self.subTest(method):
                        # In the class itself, not in a base class.
                        found = inspect.signature(vars(own)[method])
                        self.assertEqual(list(found.parameters), ["self"] + arguments)

    def test_errors(self):
        module = importlib.import_module("sandreckoner.errors")
        self.assertEqual(module.ReckonError.__bases__, (ValueError,))
        for name in ERRORS:
            own = getattr(module, name)
            self.assertEqual(own.__module__, "sandreckoner.errors")
            self.assertEqual(own.__bases__, (module.ReckonError,))

    def test_constants(self):
        for file, listed in CONSTANTS.items():
            module = importlib.import_module(f"sandreckoner.{file}")
            for name, value in listed.items():
                with self.subTest(name):
                    self.assertEqual(getattr(module, name), value)


if __name__ == "__main__":
    unittest.main()
