"""Tests of the form of the package: its interface, and rules that a test can see."""

import ast
import importlib
import inspect
import unittest
from pathlib import Path

FOLDER = Path(__file__).resolve().parent.parent / "swapshelves"

INTERFACE = {
    "plans": {"pattern_length": "plan", "visits": "plan number", "places": "plan"},
    "states": {"initial_state": "plan", "tick": "plan state", "apply_effect": "plan state effect"},
    "effects": {
        "effect_of": "plan time count", "compose": "one other", "invert": "effect",
        "repeat": "effect count", "cycles": "effect", "order": "effect",
    },
    "movement": {
        "advance": "plan state count", "locate": "plan state parcel count",
        "parcel_at": "plan state place count", "return_time": "plan state parcel",
        "period": "plan state",
    },
    "counting": {
        "times_left": "plan state parcel shelf count",
        "ticks_carried": "plan state parcel carrier count",
        "ticks_on_shelf": "plan state parcel shelf count",
        "nth_left": "plan state parcel shelf number", "stamps": "plan state parcel count",
        "stamp_at": "plan state parcel number", "arrival": "plan state parcel place",
    },
    "families": {
        "follows_by": "plan state one other", "families": "plan state",
        "first_meeting": "plan state one other", "ticks_together": "plan state one other count",
        "never_met": "plan state parcel",
    },
    "observers": {
        "Observer": "plan time parcels", "watched": "plan time shelf count",
        "watching_time": "plan time shelf",
    },
    "swaps": {
        "arrangement": "plan state", "plan_swaps": "plan state goal count",
        "fewest_swaps": "plan state goal count", "swap_all": "plan state swaps",
        "first_difference": "plan other time",
    },
    "editing": {
        "put_in": "plan state shelf parcel", "take_out": "plan state parcel",
        "reroute": "plan carrier route",
    },
    "program_runs": {
        "run_program": "plan state source", "program_effect": "plan time source",
        "count_lefts": "plan state source parcel", "program_order": "plan time source",
        "repetitions_to": "plan state source parcel place",
        "first_disagreement": "plan source other",
    },
    "program_printer": {"format_program": "source"},
    "program_inversion": {"invert_program": "plan source"},
    "program_simplifier": {"simplify_program": "source"},
    "plan_text": {
        "format_plan": "plan", "parse_plan": "text", "format_state": "plan state",
        "parse_state": "plan text",
    },
    "packed": {
        "pack_bytes": "numbers", "unpack_bytes": "data", "encode_plan": "plan",
        "decode_plan": "data", "encode_state": "plan state", "decode_state": "plan data",
        "encode_program": "source", "decode_program": "data",
    },
}

METHODS = {
    "see": "self place count parcel", "known_places": "self", "where": "self parcel count",
    "what": "self place count", "records": "self",
}

LIBRARY = {
    "heapq": ("heappush", "heappop", "heapify", "heapreplace", "heappushpop"),
    "math": ("gcd", "lcm", "isqrt", "comb", "perm", "factorial"),
    "itertools": (
        "product", "combinations", "permutations",
        "chain", "accumulate", "pairwise", "islice", "zip_longest",
    ),
    "collections": ("defaultdict",),
}


def sources():
    """Return the list of (name, text) of the files of the package."""
    return [(path.name, path.read_text(encoding="utf-8")) for path in sorted(FOLDER.glob("*.py"))]


class InterfaceTest(unittest.TestCase):
    def test_functions_are_defined_where_the_interface_lists_them(self):
        for module, functions in INTERFACE.items():
            for name, parameters in functions.items():
                function = getattr(importlib.import_module(f"swapshelves.{module}"), name)
                self.assertEqual(function.__module__, f"swapshelves.{module}", name)
                told = list(inspect.signature(function).parameters)
                self.assertEqual(told, parameters.split(), name)

    def test_methods_are_defined_in_the_class_itself(self):
        found = vars(importlib.import_module("swapshelves.observers").Observer)
        for name, parameters in METHODS.items():
            told = list(inspect.signature(found[name]).parameters)
            self.assertEqual(told, parameters.split(), name)


class FormTest(unittest.TestCase):
    def test_the_folder_contains_only_python_files(self):
        for path in FOLDER.iterdir():
            if path.name != "__pycache__":
                self.assertRegex(path.name, r"^[a-z_][a-z0-9_]*\.py$")
        self.assertTrue((FOLDER / "__init__.py").exists())

    def test_characters_and_lengths(self):
        for name, text in sources():
            rows = text.split("\n")
            self.assertTrue(all(" " <= sign <= "~" for row in rows for sign in row), name)
            self.assertLessEqual(max(len(row) for row in rows), 120, name)
            self.assertLessEqual(len(rows), 399, name)

    def test_lengths_of_functions(self):
        for name, text in sources():
            for node in ast.walk(ast.parse(text)):
                if isinstance(node, ast.FunctionDef):
                    self.assertLessEqual(node.end_lineno - node.lineno + 1, 40, (name, node.name))

    def test_imports_come_from_the_package_and_the_named_library(self):
        for name, text in sources():
            for node in ast.walk(ast.parse(text)):
                self.assertNotIsInstance(node, ast.Import, name)
                if isinstance(node, ast.ImportFrom):
                    words = [alias.name for alias in node.names]
                    allowed = LIBRARY.get(node.module, ())
                    inside = node.level == 0 and node.module.startswith("swapshelves.")
                    self.assertTrue(inside or all(word in allowed for word in words), name)

    def test_no_percent_sign_in_strings(self):
        for name, text in sources():
            for node in ast.walk(ast.parse(text)):
                if isinstance(node, ast.Constant) and isinstance(node.value, str):
                    self.assertNotIn("%", node.value, name)

    def test_what_stands_before_a_percent_sign_is_certainly_a_number(self):
        # The package creates bytes, to which the sign would mean something else.
        for name, text in sources():
            for node in ast.walk(ast.parse(text)):
                if isinstance(node, ast.BinOp) and isinstance(node.op, ast.Mod):
                    told = ast.unparse(node.left)
                    self.assertRegex(told, r"^(int|len)\(.*\)$|^\w+ - \d+$", name)

    def test_nothing_is_imported_that_is_not_used(self):
        for name, text in sources():
            tree = ast.parse(text)
            used = {node.id for node in ast.walk(tree) if isinstance(node, ast.Name)}
            for node in ast.walk(tree):
                if isinstance(node, ast.ImportFrom):
                    for alias in node.names:
                        self.assertIn(alias.name, used, name)

    def test_imports_name_the_file_that_defines_the_name(self):
        defined = {}
        for name, text in sources():
            for node in ast.parse(text).body:
                if isinstance(node, (ast.FunctionDef, ast.ClassDef)):
                    defined.setdefault("swapshelves." + name[:-3], []).append(node.name)
                if isinstance(node, ast.Assign):
                    words = [target.id for target in node.targets]
                    defined.setdefault("swapshelves." + name[:-3], []).extend(words)
        for name, text in sources():
            for node in ast.walk(ast.parse(text)):
                if isinstance(node, ast.ImportFrom) and node.module in defined:
                    for alias in node.names:
                        self.assertIn(alias.name, defined[node.module], name)
                        self.assertIsNone(alias.asname, name)


if __name__ == "__main__":
    unittest.main()
