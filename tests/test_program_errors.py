"""Tests of the errors of programs that fit the grammar: point 18."""

import unittest

from programs import calls_with_plan, calls_without_plan
from samples import ALONE, MOST, PLAN
from swapshelves.errors import ProgramError, ProgramSyntaxError
from swapshelves.program_runs import first_disagreement, program_effect

BIG = "9" * 19

# Errors that every function raises, with the text of the token at which they stand.
OF_ALL = (
    ("count", "ticks 1; ticks |1000000000000000001;"),
    ("count", f"back |{BIG};"),
    ("count", "repeat |1000000000000000001 {}"),
    ("count", "repeat 0 { repeat 2 { ticks |1000000000000000001; } }"),
    ("count", "define a { back |1000000000000000001; }"),
    ("swap", "swap carrier 0, |carrier 0;"),
    ("swap", "swap shelf 1 1, |shelf 1 1;"),
    ("swap", "swap shelf 1 0, shelf 1 1; repeat 0 { swap shelf 0 0,\n |shelf # 1\n0 0 ; }"),
    ("route", "route 0: 0 1 0 1 rest 0 |1;"),
    ("route", "route 0: 0 1 0 1 rest 0 |rest 0 0 0;"),
    ("route", "repeat 0 { route 1: rest rest rest rest rest rest\n|rest; }"),
    ("duplicate", "define a {} define |a {}"),
    ("duplicate", "define a {} define b {} ticks 1; define\n  |a { ticks 1; } call a;"),
    ("duplicate", "define a { ticks 1; } define b { call a; } define |b { call b; }"),
    ("undefined", "call |a;"),
    ("undefined", "define a { call |a; }"),
    ("undefined", "define a { repeat 2 { repeat 3 {} call |a; } } call a;"),
    ("undefined", "define a {} call a; call |b; define b {}"),
    ("undefined", "repeat 0 { call |a; }"),
    ("undefined", "define b { call |c; } define c { call b; }"),
)

# Errors that only functions with a plan raise.
OF_PLANS = (
    ("place", "swap |carrier 2, carrier 0;"),
    ("place", "swap carrier 1, |carrier 2;"),
    ("place", f"swap carrier 1, |carrier {BIG};"),
    ("place", "swap |shelf 0 1, carrier 0;"),
    ("place", "swap carrier 0, |shelf 1 2;"),
    ("place", "swap carrier 0, |shelf 2 0;"),
    ("place", f"swap carrier 0, |shelf {BIG} 0;"),
    ("place", "repeat 0 { swap\n|carrier\n2, carrier 0; }"),
    ("place", "define a { ticks 1;\n swap shelf 1 0, |shelf 1 2; }"),
    ("carrier", "route |2: 0;"),
    ("carrier", f"repeat 0 {{ route |{BIG}: 0; }}"),
    ("shelf", "route 0: |2;"),
    ("shelf", "route 1: 0 1 rest |2 2;"),
    ("shelf", f"route 1: rest\n|{BIG};"),
)

# Two errors in one program, of which the first one in the text counts.
TWO_OF_ALL = (
    ("count", f"ticks |{BIG}; call a;"),
    ("undefined", f"call |a; ticks {BIG};"),
    ("swap", "swap carrier 0, |carrier 0; define a {} define a {}"),
    ("duplicate", "define a {} define |a { swap carrier 0, carrier 0; }"),
    ("duplicate", "define a {} define |a { call a; call b; }"),
    ("route", f"repeat 2 {{ route 0: 0 0 0 0 0 0 |0 0; }} repeat {BIG} {{}}"),
    ("count", f"repeat |{BIG} {{ route 0: 0 0 0 0 0 0 0; ticks {BIG}; }}"),
    ("undefined", "define a { call |a; call b; } define a {}"),
    ("count", f"define a {{ ticks |{BIG}; }} define a {{}}"),
)
TWO_OF_PLANS = (
    ("place", "swap |carrier 2, carrier 2;"),
    ("place", "swap |carrier 9, shelf 7 7;"),
    ("place", "swap carrier 0, |shelf 7 7; call a;"),
    ("swap", "swap carrier 0, |carrier 0; swap carrier 2, carrier 0;"),
    ("carrier", "route |2: 2;"),
    ("carrier", "route |2: 0 0 0 0 0 0 0;"),
    ("shelf", "route 0: |2 0 0 0 0 0 0;"),
    ("shelf", "route 0: 0 0 0 0 0 |2 2;"),
    ("route", "route 0: 0 0 0 0 0 0 |0 2;"),
    ("undefined", "call |a; route 2: 2;"),
    ("shelf", f"route 0: |2; ticks {BIG};"),
    ("count", f"ticks |{BIG}; route 0: 2;"),
)
# At one token: "place" stands before "swap", "route" before "shelf".
SAME_TOKEN = (
    ("route", "route 0: 0 0 0 0 0 0 |2;"),
    ("route", "route 0: 0 0 0 0 0 0 |2 2;"),
)


def split(text):
    """Return (source, row, column) of a text in which a stroke marks a token."""
    before, behind = text.split("|")
    rows = before.split("\n")
    return before + behind, len(rows) - 1, len(rows[-1])


class ProgramErrorTest(unittest.TestCase):
    def assert_told(self, calls, reason, text):
        source, row, column = split(text)
        for call in calls(source):
            with self.assertRaises(ProgramError, msg=source) as caught:
                call()
            told = caught.exception
            self.assertEqual((told.reason, told.row, told.column), (reason, row, column), source)

    def test_errors_that_every_function_raises(self):
        for reason, text in OF_ALL + TWO_OF_ALL:
            self.assert_told(calls_with_plan, reason, text)
            self.assert_told(calls_without_plan, reason, text)

    def test_errors_that_only_functions_with_a_plan_raise(self):
        for reason, text in OF_PLANS:
            self.assert_told(calls_with_plan, reason, text)
            for call in calls_without_plan(split(text)[0]):
                call()

    def test_two_errors_of_which_one_needs_the_plan(self):
        for reason, text in TWO_OF_PLANS + SAME_TOKEN:
            self.assert_told(calls_with_plan, reason, text)

    def test_at_one_token(self):
        # The second place is the same as the first, and the plan does not have it.
        self.assert_told(calls_without_plan, "swap", "swap carrier 2, |carrier 2;")
        self.assert_told(calls_with_plan, "place", "swap |carrier 2, carrier 2;")

    def test_the_grammar_comes_first(self):
        for _, text in OF_ALL + OF_PLANS:
            source, _, _ = split(text)
            for wrong in ("}", "ticks ;", "%", "01"):
                text = source + "\n" + wrong
                for call in calls_with_plan(text) + calls_without_plan(text):
                    with self.assertRaises(ProgramSyntaxError) as caught:
                        call()
                    self.assertEqual(caught.exception.row, source.count("\n") + 1)

    def test_numbers_at_their_limits(self):
        for source in (
            f"ticks {MOST};", f"back {MOST};", f"repeat {MOST} {{}}", "swap shelf 1 0, shelf 1 1;",
            "route 1: 1 rest 0 1 rest 1;", "swap carrier 1, shelf 1 1;", "route 0: rest;",
            f"repeat {MOST} {{ back {MOST}; ticks {MOST}; }}",
        ):
            for call in calls_with_plan(source) + calls_without_plan(source):
                call()
        with self.assertRaises(ProgramError):
            program_effect(ALONE, 0, "swap carrier 0, shelf 0 0;")

    def test_a_definition_is_known_behind_its_block(self):
        for source in (
            "define a {} call a;", "define a {}\ndefine b { call a; repeat 2 { call a; } } call b; call a;",
            "ticks 1; define b {} define a { call b; } repeat 3 { call a; }",
        ):
            for call in calls_with_plan(source) + calls_without_plan(source):
                call()

    def test_errors_of_two_programs(self):
        for one, other, reason in (
            ("call a;", "ticks ;", "undefined"), ("route 2: 0;", "call a;", "carrier"), ("", "call a;", "undefined"),
        ):
            with self.assertRaises(ProgramError) as caught:
                first_disagreement(PLAN, one, other)
            self.assertEqual(caught.exception.reason, reason)
        with self.assertRaises(ProgramSyntaxError) as caught:
            first_disagreement(PLAN, "ticks ;", "\nticks ;")
        self.assertEqual(caught.exception.row, 0)
        with self.assertRaises(ProgramSyntaxError) as caught:
            first_disagreement(PLAN, "ticks 1;", "\nticks ;")
        self.assertEqual(caught.exception.row, 1)


if __name__ == "__main__":
    unittest.main()
