"""Tests of calls: point 1, and invalid plans and states (points 2 and 3), for every function."""

import copy
import unittest
from random import Random

from samples import BUSY, MOST, PLAN, STATE, scattered
from swapshelves.counting import (
    arrival, nth_left, stamp_at, stamps, ticks_carried, ticks_on_shelf, times_left,
)
from swapshelves.editing import put_in, reroute, take_out
from swapshelves.effects import compose, cycles, effect_of, invert, order, repeat
from swapshelves.errors import InvalidPlan, InvalidState, ShelfError
from swapshelves.families import families, first_meeting, follows_by, never_met, ticks_together
from swapshelves.movement import advance, locate, parcel_at, period, return_time
from swapshelves.observers import watched, watching_time
from swapshelves.packed import (
    decode_plan, decode_program, decode_state, encode_plan, encode_program, encode_state, pack_bytes, unpack_bytes,
)
from swapshelves.plan_text import format_plan, format_state, parse_plan, parse_state
from swapshelves.plans import pattern_length, places, visits
from swapshelves.program_inversion import invert_program
from swapshelves.program_printer import format_program
from swapshelves.program_runs import (
    count_lefts, first_disagreement, program_effect, program_order, repetitions_to, run_program,
)
from swapshelves.program_simplifier import simplify_program
from swapshelves.states import apply_effect, initial_state, tick
from swapshelves.swaps import arrangement, fewest_swaps, first_difference, plan_swaps, swap_all

EFFECT = (1, 2, 0, 4, 3)
ONE, TWO = ("carrier", 0), ("shelf", 1, 1)
SOURCE = f"define a {{ route 1: 0 rest; ticks 7; }} repeat {MOST} {{ call a; swap carrier 0, shelf 1 0; }} back 3;"

# The arguments behind the plan and the state.
WITH_STATE = [
    (tick, ()), (apply_effect, (EFFECT,)), (advance, (5,)), (locate, (5, 3)), (parcel_at, (ONE, 3)), (return_time, (5,)),
    (period, ()), (times_left, (1, 1, 9)), (ticks_carried, (1, 0, 9)), (ticks_on_shelf, (1, 0, 9)),
    (nth_left, (1, 1, 3)), (stamps, (1, 9)), (stamp_at, (1, 5)), (arrival, (1, ("carrier", 1))), (follows_by, (5, 1)),
    (families, ()), (first_meeting, (1, 3)), (ticks_together, (1, 3, 99)), (never_met, (1,)),
    (arrangement, ()), (plan_swaps, ((5, 4, 3, 2, 1), 7)), (fewest_swaps, ((5, 4, 3, 2, 1), 7)),
    (swap_all, ([(ONE, TWO), (("carrier", 1), ONE)],)), (put_in, (0, 9)), (take_out, (5,)),
    (run_program, (SOURCE.replace(str(MOST), "12345"),)), (count_lefts, (SOURCE, 3)), (repetitions_to, (SOURCE, 3, TWO)),
    (format_state, ()), (encode_state, ()),
]
# The arguments behind the plan.
WITH_PLAN = [
    (pattern_length, ()), (visits, (7,)), (places, ()), (initial_state, ()), (effect_of, (3, 17)),
    (watched, (0, 0, 3)), (watching_time, (0, 0)), (first_difference, (((1, 2), ((0, 1), (1, 1, 0))), 0)),
    (reroute, (1, (0, None))), (program_effect, (4, SOURCE)), (program_order, (4, SOURCE)),
    (first_disagreement, (SOURCE, "ticks 3;")), (invert_program, (SOURCE,)), (format_plan, ()), (encode_plan, ()),
    (parse_state, ("time -5\ncarried 1 2\nshelf 4\nshelf 3 5",)), (decode_state, (encode_state(PLAN, STATE),)),
]
OTHERS = [
    (compose, (EFFECT, (4, 3, 2, 1, 0))), (invert, (EFFECT,)), (repeat, (EFFECT, -MOST)), (cycles, (EFFECT,)),
    (order, (EFFECT,)), (format_program, (SOURCE,)), (simplify_program, (SOURCE,)), (encode_program, (SOURCE,)),
    (parse_plan, ("sizes 1 2\nroute 0 1\nroute 1",)), (pack_bytes, ([0, 128, 255],)), (unpack_bytes, (b"\x00\x80\xff",)),
    (decode_plan, (encode_plan(BUSY),)), (decode_program, (encode_program(SOURCE),)),
]
# Calls that raise errors, besides those with invalid plans and states.
WRONG_CALLS = [
    (format_program, ("ticks",)), (simplify_program, ("call a;",)), (encode_program, ("ticks 00;",)),
    (invert_program, (PLAN, "route 2: 0;")), (run_program, (PLAN, STATE, "repeat 2 {")), (program_order, (PLAN, 0, "%")),
    (program_effect, (PLAN, 0, "swap carrier 0, carrier 0;")), (count_lefts, (PLAN, STATE, "", 9)),
    (repetitions_to, (PLAN, STATE, "", 1, ("carrier", 2))), (first_disagreement, (PLAN, "", "define a {} define a {}")),
    (parse_plan, ("sizes 1",)), (parse_plan, ("",)), (parse_state, (PLAN, "time 0")), (pack_bytes, ([256],)),
    (decode_plan, (b"",)), (decode_state, (PLAN, b"S")), (decode_program, (b"G\x01",)),
]

# Programs for PLAN and STATE, and what they do: the plan and the state afterwards, the effect, how often
# the parcels 1 to 5 are left, after how many times parcel 1 is at each place.
KNOWN = (
    (
        "define a { ticks 3; swap carrier 0, shelf 1 1; } repeat 4 { call a; back 1; } route 1: 0 rest; ticks 2;",
        ((1, 2), ((0, 1), (0, None))), (10, (5, 2), ((3,), (1, 4))), (3, 1, 2, 4, 0),
        [[1, 3], [1, 4], [2, 1], [1, 3], [1, 2]], [0, 3, 4, 1, 5],
    ),
    (
        "repeat 2 { ticks 1; route 0: 1; repeat 3 { ticks 2; } } repeat 1 { swap shelf 1 0, carrier 1; } "
        "swap carrier 1, shelf 1 0; back 0;",
        ((1, 2), ((1,), (1,))), (14, (5, 2), ((1,), (3, 4))), (2, 1, 3, 4, 0),
        [[1, 0], [0, 7], [0, 7], [0, 7], [0, 6]], [0, None, 1, None, None],
    ),
    (
        "define b { back 2; route 1: 0 1; } call b; define c { call b; repeat 5 { swap carrier 0, carrier 1; } }"
        "repeat 7 { call c; ticks 4; }",
        ((1, 2), ((0, 1), (0, 1))), (12, (5, 4), ((2,), (1, 3))), (3, 2, 4, 1, 0),
        [[2, 2], [4, 2], [2, 3], [3, 3], [2, 1]], [0, 2, None, 1, None],
    ),
)
WRONG_STATES = (
    (0, (1, 2), ((3,), (4, 4))), (0, (1, 2), ((3,), (4,))), (0, (1, 2), ((3,), (4, 5, 6))), (0, (1,), ((3,), (4, 5))),
    (0, (1, 2), ((3,), (4, 1000))), (0, (0, 2), ((3,), (4, 5))), (0, (1, 2), ((3, 4, 5),)),
    (10 ** 30 + 1, (1, 2), ((3,), (4, 5))), (-10 ** 30 - 1, (1, 2), ((3,), (4, 5))), (0, (1, 2), ((3,), (4, 5)), ()),
    (0, [1, 2], ((3,), (4, 5))), (0, (1, 2), [(3,), (4, 5)]), (0, (1, 2), ([3], (4, 5))), (None, (1, 2), ((3,), (4, 5))),
    (0, (1, True), ((3,), (4, 5))), (), None,
)
WRONG_PLANS = (
    (((1, 10), ((0, 1), (1,))), "sizes", 1), (((-1, 2), ((0, 1), (1,))), "sizes", 0), (((), ((0,),)), "sizes", -1),
    (((1, 2), ()), "routes", -1), (((1, 2), ((0, 2), (1,))), "routes", 0), (((1, 2), ((0, 1), ())), "routes", 1),
    (((1,) * 13, ((2, 1),)), "sizes", -1), (((1, 2), ((0,),) * 7), "routes", -1), (((1, 2), ((0,) * 7, ())), "routes", 0),
)


def all_calls():
    """Return the list of (function, all its arguments)."""
    found = [(function, (PLAN, STATE) + rest) for function, rest in WITH_STATE]
    found.extend([(function, (PLAN,) + rest) for function, rest in WITH_PLAN])
    return found + OTHERS


def modify(value):
    """Modify all lists and dicts of a returned value."""
    if isinstance(value, (list, tuple)):
        for part in list(value):
            modify(part)
    if isinstance(value, list):
        value.append(None)
        value.reverse()
    if isinstance(value, dict):
        value.clear()


class InvalidStatesTest(unittest.TestCase):
    def test_invalid_states(self):
        for function, rest in WITH_STATE:
            for state in WRONG_STATES:
                with self.assertRaises(InvalidState, msg=function.__name__):
                    function(PLAN, state, *rest)

    def test_states_of_another_plan(self):
        for function, rest in WITH_STATE:
            with self.assertRaises(InvalidState, msg=function.__name__):
                function(BUSY, STATE, *rest)
            with self.assertRaises(InvalidState, msg=function.__name__):
                function(PLAN, scattered(BUSY, 0), *rest)

    def test_invalid_plans_come_first(self):
        for plan, part, index in WRONG_PLANS:
            for state in (STATE,) + WRONG_STATES:
                for function, rest in WITH_STATE:
                    with self.assertRaises(InvalidPlan, msg=function.__name__) as caught:
                        function(plan, state, *rest)
                    self.assertEqual((caught.exception.part, caught.exception.index), (part, index))
            for function, rest in WITH_PLAN:
                with self.assertRaises(InvalidPlan, msg=function.__name__) as caught:
                    function(plan, *rest)
                self.assertEqual((caught.exception.part, caught.exception.index), (part, index))

    def test_an_invalid_state_comes_before_what_follows(self):
        for function, rest in WITH_STATE:
            if rest:
                wrong = {swap_all: [None], run_program: "ticks", count_lefts: "ticks", repetitions_to: "ticks"}
                for state in WRONG_STATES:
                    with self.assertRaises(InvalidState, msg=function.__name__):
                        function(PLAN, state, wrong.get(function, None), *rest[1:])


class RepeatedCallsTest(unittest.TestCase):
    def test_arguments_are_unchanged(self):
        for function, values in all_calls():
            kept = copy.deepcopy(values)
            modify(function(*values))
            self.assertEqual(values, kept, function.__name__)

    def test_equal_calls_in_random_order_with_errors_between_them(self):
        calls = all_calls()
        known = [copy.deepcopy(function(*values)) for function, values in calls]
        source = Random(9)
        for _ in range(600):
            at = source.randrange(len(calls))
            function, values = calls[at]
            told = function(*copy.deepcopy(values))
            self.assertEqual(told, known[at], function.__name__)
            modify(told)
            function, rest = source.choice(WITH_STATE)
            with self.assertRaises(ShelfError):
                function(PLAN, source.choice(WRONG_STATES), *rest)
            function, rest = source.choice(WITH_PLAN)
            with self.assertRaises(ShelfError):
                function(source.choice(WRONG_PLANS)[0], *rest)
            function, values = source.choice(WRONG_CALLS)
            with self.assertRaises(ShelfError):
                function(*values)


class KnownProgramsTest(unittest.TestCase):
    def assert_known(self, source, plan, state, effect, lefts, times):
        self.assertEqual(run_program(PLAN, STATE, source), (plan, state))
        self.assertEqual(program_effect(PLAN, 0, source), (plan, state[0], effect))
        self.assertEqual([count_lefts(PLAN, STATE, source, parcel) for parcel in range(1, 6)], lefts)
        self.assertEqual([repetitions_to(PLAN, STATE, source, 1, place) for place in places(PLAN)], times)
        self.assertIsNone(program_order(PLAN, 0, source))

    def test_known_programs_have_known_results(self):
        for source, *known in KNOWN:
            self.assert_known(source, *known)
            self.assert_known(format_program(source), *known)
            self.assert_known(simplify_program(source), *known)
            self.assert_known(decode_program(encode_program(source)), *known)
            plan, state = known[:2]
            self.assertEqual(run_program(plan, state, invert_program(PLAN, source)), (PLAN, STATE))
            self.assertIsNone(first_disagreement(PLAN, source, simplify_program(source)))

    def test_in_another_order_with_errors_between_them(self):
        source = Random(4)
        for _ in range(60):
            self.assert_known(*source.choice(KNOWN))
            function, values = source.choice(WRONG_CALLS)
            with self.assertRaises(ShelfError):
                function(*values)

    def test_known_texts(self):
        source = KNOWN[1][0]
        told = "repeat 2 {\n  ticks 1;\n  route 0: 1;\n  ticks 6;\n}"
        self.assertEqual(simplify_program(source), told)
        told = [71, 1, 1, 97, 2, 116, 3, 115, 0, 0, 1, 1, 1, 3, 108, 4, 2, 99, 0, 98, 1, 114, 1, 2, 1, 0, 116, 2, 79, 153]
        self.assertEqual(unpack_bytes(encode_program(KNOWN[0][0])), told)


if __name__ == "__main__":
    unittest.main()
