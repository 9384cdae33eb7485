"""Tests of plans and states as texts: point 24."""

import unittest
from random import Random

from samples import (
    ALONE, BUSY, FAULTS_OF_PLAN_AND_STATE, IDLE, PLAN, STATE, WRONG_PLAN,
    all_plans, assert_errors_in_order, fill, parcels_of, scattered,
)
from swapshelves.errors import InvalidPlan, InvalidState, InvalidText
from swapshelves.plan_text import format_plan, format_state, parse_plan, parse_state

SMALL = ((2,), ((0,),))
SMALL_STATE = (0, (1,), ((2, 3),))
FAR = 10 ** 30
LONG = "9" * 5000

# What is no integer, and no rest either.
WRONG_ITEMS = ("", "x", "00", "01", "-1", "-0", "+1", "1.0", "1x", "x1", "0x1", "1_0", "1,", "None", "Rest", "rests",
               "\t", "1\t", "1\r", "\u0663", "\u00b2", "\uff11", "1\u00a0", "-", "--1")


def slow_plan_text(plan):
    """Return the text of a plan, as point 24 tells it."""
    text = "sizes"
    for size in plan[0]:
        text += f" {size}"
    for route in plan[1]:
        text += "\nroute"
        for entry in route:
            text += " rest" if entry is None else f" {entry}"
    return text


def slow_state_text(state):
    """Return the text of a state, as point 24 tells it."""
    text = f"time {state[0]}\ncarried"
    for parcel in state[1]:
        text += f" {parcel}"
    for shelf in state[2]:
        text += "\nshelf"
        for parcel in shelf:
            text += f" {parcel}"
    return text


class PlanTextTest(unittest.TestCase):
    def assert_row(self, text, row):
        with self.assertRaises(InvalidText, msg=text) as caught:
            parse_plan(text)
        self.assertEqual(caught.exception.row, row, text)

    def assert_invalid(self, text, part, index):
        with self.assertRaises(InvalidPlan, msg=text) as caught:
            parse_plan(text)
        self.assertEqual((caught.exception.part, caught.exception.index), (part, index), text)

    def test_examples(self):
        self.assertEqual(format_plan(((2,), ((0, None),))), "sizes 2\nroute 0 rest")
        self.assert_row("sizes 2\nroute x", 1)

    def test_texts_of_plans(self):
        self.assertEqual(format_plan(PLAN), "sizes 1 2\nroute 0 1\nroute 1")
        self.assertEqual(format_plan(IDLE), "sizes 2 0\nroute rest\nroute rest rest rest")
        for plan in all_plans():
            self.assertEqual(format_plan(plan), slow_plan_text(plan))

    def test_there_and_back_again(self):
        for plan in all_plans():
            told = parse_plan(format_plan(plan))
            self.assertEqual(told, plan)
            self.assertEqual([type(part) for part in told + told[1]], [tuple] * (2 + len(plan[1])))
            self.assertEqual(format_plan(told), format_plan(plan))

    def test_wrong_items_in_each_row(self):
        lines = format_plan(BUSY).split("\n")
        for row, line in enumerate(lines):
            words = line.split(" ")
            for wrong in WRONG_ITEMS:
                for at in range(1, len(words) + 1):
                    changed = " ".join(words[:at] + [wrong] + words[at:])
                    self.assert_row("\n".join(lines[:row] + [changed] + lines[row + 1:]), row)

    def test_wrong_lines_in_each_row(self):
        lines = format_plan(BUSY).split("\n")
        for row, line in enumerate(lines):
            for wrong in ("", " ", "x", " " + line, line + " ", line.replace(" ", "  ", 1), line.replace(" ", "\t", 1),
                          line.upper(), line + "\r", "#", "shelf 1", "time 0", "sizess 1", "routes 0", "rest", "0"):
                self.assert_row("\n".join(lines[:row] + [wrong] + lines[row + 1:]), row)
            other = "route 0" if row == 0 else "sizes 1"
            self.assert_row("\n".join(lines[:row] + [other] + lines[row + 1:]), row)

    def test_the_first_wrong_line_counts(self):
        lines = format_plan(BUSY).split("\n")
        source = Random(3)
        for _ in range(50):
            rows = source.sample(range(len(lines)), 3)
            changed = ["?" if row in rows else line for row, line in enumerate(lines)]
            self.assert_row("\n".join(changed), min(rows))

    def test_empty_lines_and_the_empty_text(self):
        self.assert_row("", 0)
        self.assert_row("\n", 0)
        self.assert_row("\nsizes 1\nroute 0", 0)
        self.assert_row("sizes 1\nroute 0\n", 2)
        self.assert_row("sizes 1\n\nroute 0", 1)
        self.assert_row("sizes 1\n", 1)

    def test_a_rest_is_no_size(self):
        self.assert_row("sizes rest\nroute 0", 0)
        self.assert_row("sizes 1 rest\nroute 0", 0)

    def test_lines_before_the_plan(self):
        self.assert_row("sizes 10\nroute x", 1)
        self.assert_row("sizes\nroute 0\nroute 00", 2)

    def test_then_the_plan(self):
        for text, part, index in (
            ("sizes\nroute 0", "sizes", -1), ("sizes", "sizes", -1), ("sizes 1", "routes", -1), ("sizes 1\nroute", "routes", 0),
            ("sizes 1\nroute 0\nroute", "routes", 1), ("sizes 10\nroute 0", "sizes", 0), ("sizes 1 10\nroute 7", "sizes", 1),
            ("sizes 1 2\nroute 0 1\nroute 2", "routes", 1), ("sizes 1\nroute 0 0 0 0 0 0 0", "routes", 0),
            ("sizes" + " 1" * 13 + "\nroute 0", "sizes", -1), ("sizes 1" + "\nroute 0" * 7, "routes", -1),
            (f"sizes 1 {LONG}\nroute 0", "sizes", 1), (f"sizes 1\nroute 0\nroute {LONG}", "routes", 1),
            (f"sizes 1 1{'0' * 40}\nroute 0", "sizes", 1),
        ):
            self.assert_invalid(text, part, index)

    def test_format_plan_checks_the_plan(self):
        with self.assertRaises(InvalidPlan) as caught:
            format_plan(WRONG_PLAN)
        self.assertEqual((caught.exception.part, caught.exception.index), ("sizes", 1))


class StateTextTest(unittest.TestCase):
    def assert_row(self, text, row, plan=PLAN):
        with self.assertRaises(InvalidText, msg=text) as caught:
            parse_state(plan, text)
        self.assertEqual(caught.exception.row, row, text)

    def assert_invalid(self, text, plan=PLAN):
        with self.assertRaises(InvalidState, msg=text):
            parse_state(plan, text)

    def test_examples(self):
        self.assertEqual(format_state(SMALL, SMALL_STATE), "time 0\ncarried 1\nshelf 2 3")
        self.assert_row("time -0\ncarried 1\nshelf 2 3", 0, SMALL)

    def test_texts_of_states(self):
        self.assertEqual(format_state(PLAN, (-5, (1, 2), ((4,), (3, 999)))), "time -5\ncarried 1 2\nshelf 4\nshelf 3 999")
        self.assertEqual(format_state(ALONE, (7, (8,), ((),))), "time 7\ncarried 8\nshelf")
        for plan in all_plans():
            for time in (0, -1, 1, FAR, -FAR, 10 ** 18 + 7):
                state = scattered(plan, time)
                self.assertEqual(format_state(plan, state), slow_state_text(state))

    def test_there_and_back_again(self):
        for seed, plan in enumerate(all_plans()):
            source = Random(seed)
            for time in (0, -1, 10, FAR, -FAR, source.randint(-FAR, FAR)):
                parcels = source.sample(range(1, 1000), len(parcels_of(scattered(plan, 0))))
                state = fill(plan, time, parcels)
                self.assertEqual(parse_state(plan, format_state(plan, state)), state)

    def test_times(self):
        for text, time in (("0", 0), ("-5", -5), ("-10", -10), ("1" + "0" * 30, FAR), ("-1" + "0" * 30, -FAR)):
            told = parse_state(PLAN, f"time {text}\ncarried 1 2\nshelf 3\nshelf 4 5")
            self.assertEqual(told, (time,) + STATE[1:])
        for text in ("1" + "0" * 31, "-1" + "0" * 31, "1" + "0" * 29 + "1" * 2, LONG, "-" + LONG):
            self.assert_invalid(f"time {text}\ncarried 1 2\nshelf 3\nshelf 4 5")
        for wrong in ("-0", "00", "-01", "+1", "--1", "-", "", " 1", "1 ", "1 2", "rest", "x", "- 1", "1-", "\u0663", "1.0"):
            self.assert_row(f"time {wrong}\ncarried 1 2\nshelf 3\nshelf 4 5", 0)
        self.assert_row("time\ncarried 1 2\nshelf 3\nshelf 4 5", 0)

    def test_wrong_items_in_each_row(self):
        lines = format_state(PLAN, STATE).split("\n")
        for row in (1, 2, 3):
            words = lines[row].split(" ")
            for wrong in WRONG_ITEMS + ("rest",):
                for at in range(1, len(words) + 1):
                    changed = " ".join(words[:at] + [wrong] + words[at:])
                    self.assert_row("\n".join(lines[:row] + [changed] + lines[row + 1:]), row)

    def test_wrong_lines_in_each_row(self):
        lines = format_state(PLAN, STATE).split("\n")
        for row, line in enumerate(lines):
            for wrong in ("", " ", "x", " " + line, line + " ", line.replace(" ", "  ", 1), line.upper(), line + "\r",
                          line.replace(" ", "\t", 1), "route 1", "sizes 1 2", "shelves 1", "carry 1", "times 1"):
                self.assert_row("\n".join(lines[:row] + [wrong] + lines[row + 1:]), row)
            for other, word in enumerate(("time", "carried", "shelf")):
                if other != min(row, 2):
                    changed = word + line[len(line.split(" ")[0]):]
                    self.assert_row("\n".join(lines[:row] + [changed] + lines[row + 1:]), row)

    def test_missing_lines(self):
        lines = format_state(PLAN, STATE).split("\n")
        for many in range(1, 4):
            self.assert_row("\n".join(lines[:many]), many)
        self.assert_row("", 0)
        self.assert_row("time 0", 1)
        self.assert_row("time 0\n", 1)
        self.assert_row("time 0\ncarried 1 2\nshelf 3", 3)
        self.assert_row("time 0\nshelf 3\nshelf 4 5", 1)
        self.assert_row("carried 1 2\nshelf 3\nshelf 4 5", 0)

    def test_superfluous_lines(self):
        text = format_state(PLAN, STATE)
        for more in ("", "shelf", "shelf 6", "x", "time 0", "\n\n"):
            self.assert_row(text + "\n" + more, 4)
        self.assert_row("\n" + text, 0)
        self.assert_row(text.replace("shelf 3", "shelf 3\n"), 3)
        self.assert_row(text.replace("carried", "time 1\ncarried"), 1)
        # The state of a plan with fewer shelves.
        self.assert_row(text, 3, SMALL)

    def test_the_first_wrong_line_counts(self):
        self.assert_row("time 0\ncarried x\nshelf 3", 1)
        self.assert_row("time x\ncarried x\nshelf 3\nshelf 4 5\nshelf", 0)
        self.assert_row("time 0\ncarried 1 2\nshelf x\nshelf 4 5\nshelf", 2)

    def test_then_the_state(self):
        for text in (
            "time 0\ncarried 1\nshelf 3\nshelf 4 5", "time 0\ncarried\nshelf 3\nshelf 4 5", "time 0\ncarried 1 2 6\nshelf 3\nshelf 4 5",
            "time 0\ncarried 1 2\nshelf\nshelf 4 5", "time 0\ncarried 1 2\nshelf 3 6\nshelf 4 5",
            "time 0\ncarried 1 2\nshelf 3\nshelf 4 4", "time 0\ncarried 0 2\nshelf 3\nshelf 4 5",
            "time 0\ncarried 1000 2\nshelf 3\nshelf 4 5", f"time 0\ncarried 1 2\nshelf {LONG}\nshelf 4 5",
            "time 0\ncarried 1 2\nshelf 4 5\nshelf 3",
        ):
            self.assert_invalid(text)

    def test_errors_in_their_order(self):
        assert_errors_in_order(self, format_state, (PLAN, STATE), FAULTS_OF_PLAN_AND_STATE)
        faults = [(0, WRONG_PLAN, InvalidPlan), (1, "", InvalidText), (1, "time 0\ncarried 0 0\nshelf\nshelf 00", InvalidText),
                  (1, "time 0\ncarried 1 1\nshelf 3\nshelf 4 5", InvalidState)]
        assert_errors_in_order(self, parse_state, (PLAN, format_state(PLAN, STATE)), faults)


if __name__ == "__main__":
    unittest.main()
