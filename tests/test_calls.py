"""Tests of calls: point 1, and invalid plans and states (points 2 and 3), for every function."""

import copy
import unittest
from random import Random

from samples import BUSY, MOST, PLAN, STATE, scattered
from swapshelves.counting import (
    arrival, nth_left, stamp_at, stamps, ticks_carried, ticks_on_shelf, times_left,
)
from swapshelves.editing import put_in, reroute, take_out
from swapshelves.effects import compose, cycles, effect_of, invert, order, repeat
from swapshelves.errors import InvalidPlan, InvalidState, ShelfError
from swapshelves.families import families, first_meeting, follows_by, never_met, ticks_together
from swapshelves.movement import advance, locate, parcel_at, period, return_time
from swapshelves.observers import watched, watching_time
from swapshelves.plans import pattern_length, places, visits
from swapshelves.program_printer import format_program
from swapshelves.program_runs import (
    count_lefts, first_disagreement, program_effect, program_order, repetitions_to, run_program,
)
from swapshelves.states import apply_effect, initial_state, tick
from swapshelves.swaps import arrangement, fewest_swaps, first_difference, plan_swaps, swap_all

EFFECT = (1, 2, 0, 4, 3)
ONE, TWO = ("carrier", 0), ("shelf", 1, 1)
SOURCE = f"define a {{ route 1: 0 rest; ticks 7; }} repeat {MOST} {{ call a; swap carrier 0, shelf 1 0; }} back 3;"

# The arguments behind the plan and the state.
WITH_STATE = [
    (tick, ()), (apply_effect, (EFFECT,)), (advance, (5,)), (locate, (5, 3)), (parcel_at, (ONE, 3)), (return_time, (5,)),
    (period, ()), (times_left, (1, 1, 9)), (ticks_carried, (1, 0, 9)), (ticks_on_shelf, (1, 0, 9)),
    (nth_left, (1, 1, 3)), (stamps, (1, 9)), (stamp_at, (1, 5)), (arrival, (1, ("carrier", 1))), (follows_by, (5, 1)),
    (families, ()), (first_meeting, (1, 3)), (ticks_together, (1, 3, 99)), (never_met, (1,)),
    (arrangement, ()), (plan_swaps, ((5, 4, 3, 2, 1), 7)), (fewest_swaps, ((5, 4, 3, 2, 1), 7)),
    (swap_all, ([(ONE, TWO), (("carrier", 1), ONE)],)), (put_in, (0, 9)), (take_out, (5,)),
    (run_program, (SOURCE.replace(str(MOST), "12345"),)), (count_lefts, (SOURCE, 3)), (repetitions_to, (SOURCE, 3, TWO)),
]
# The arguments behind the plan.
WITH_PLAN = [
    (pattern_length, ()), (visits, (7,)), (places, ()), (initial_state, ()), (effect_of, (3, 17)),
    (watched, (0, 0, 3)), (watching_time, (0, 0)), (first_difference, (((1, 2), ((0, 1), (1, 1, 0))), 0)),
    (reroute, (1, (0, None))), (program_effect, (4, SOURCE)), (program_order, (4, SOURCE)),
    (first_disagreement, (SOURCE, "ticks 3;")),
]
OTHERS = [
    (compose, (EFFECT, (4, 3, 2, 1, 0))), (invert, (EFFECT,)), (repeat, (EFFECT, -MOST)), (cycles, (EFFECT,)),
    (order, (EFFECT,)), (format_program, (SOURCE,)),
]
WRONG_STATES = (
    (0, (1, 2), ((3,), (4, 4))), (0, (1, 2), ((3,), (4,))), (0, (1, 2), ((3,), (4, 5, 6))), (0, (1,), ((3,), (4, 5))),
    (0, (1, 2), ((3,), (4, 1000))), (0, (0, 2), ((3,), (4, 5))), (0, (1, 2), ((3, 4, 5),)),
    (10 ** 30 + 1, (1, 2), ((3,), (4, 5))), (-10 ** 30 - 1, (1, 2), ((3,), (4, 5))), (0, (1, 2), ((3,), (4, 5)), ()),
    (0, [1, 2], ((3,), (4, 5))), (0, (1, 2), [(3,), (4, 5)]), (0, (1, 2), ([3], (4, 5))), (None, (1, 2), ((3,), (4, 5))),
    (0, (1, True), ((3,), (4, 5))), (), None,
)
WRONG_PLANS = (
    (((1, 10), ((0, 1), (1,))), "sizes", 1), (((-1, 2), ((0, 1), (1,))), "sizes", 0), (((), ((0,),)), "sizes", -1),
    (((1, 2), ()), "routes", -1), (((1, 2), ((0, 2), (1,))), "routes", 0), (((1, 2), ((0, 1), ())), "routes", 1),
    (((1,) * 13, ((2, 1),)), "sizes", -1), (((1, 2), ((0,),) * 7), "routes", -1), (((1, 2), ((0,) * 7, ())), "routes", 0),
)


def all_calls():
    """Return the list of (function, all its arguments)."""
    found = [(function, (PLAN, STATE) + rest) for function, rest in WITH_STATE]
    found.extend([(function, (PLAN,) + rest) for function, rest in WITH_PLAN])
    return found + OTHERS


def modify(value):
    """Modify all lists and dicts of a returned value."""
    if isinstance(value, (list, tuple)):
        for part in list(value):
            modify(part)
    if isinstance(value, list):
        value.append(None)
        value.reverse()
    if isinstance(value, dict):
        value.clear()


class InvalidStatesTest(unittest.TestCase):
    def test_invalid_states(self):
        for function, rest in WITH_STATE:
            for state in WRONG_STATES:
                with self.assertRaises(InvalidState, msg=function.__name__):
                    function(PLAN, state, *rest)

    def test_states_of_another_plan(self):
        for function, rest in WITH_STATE:
            with self.assertRaises(InvalidState, msg=function.__name__):
                function(BUSY, STATE, *rest)
            with self.assertRaises(InvalidState, msg=function.__name__):
                function(PLAN, scattered(BUSY, 0), *rest)

    def test_invalid_plans_come_first(self):
        for plan, part, index in WRONG_PLANS:
            for state in (STATE,) + WRONG_STATES:
                for function, rest in WITH_STATE:
                    with self.assertRaises(InvalidPlan, msg=function.__name__) as caught:
                        function(plan, state, *rest)
                    self.assertEqual((caught.exception.part, caught.exception.index), (part, index))
            for function, rest in WITH_PLAN:
                with self.assertRaises(InvalidPlan, msg=function.__name__) as caught:
                    function(plan, *rest)
                self.assertEqual((caught.exception.part, caught.exception.index), (part, index))

    def test_an_invalid_state_comes_before_what_follows(self):
        for function, rest in WITH_STATE:
            if rest:
                wrong = {swap_all: [None], run_program: "ticks", count_lefts: "ticks", repetitions_to: "ticks"}
                for state in WRONG_STATES:
                    with self.assertRaises(InvalidState, msg=function.__name__):
                        function(PLAN, state, wrong.get(function, None), *rest[1:])


class RepeatedCallsTest(unittest.TestCase):
    def test_arguments_are_unchanged(self):
        for function, values in all_calls():
            kept = copy.deepcopy(values)
            modify(function(*values))
            self.assertEqual(values, kept, function.__name__)

    def test_equal_calls_in_random_order_with_errors_between_them(self):
        calls = all_calls()
        known = [copy.deepcopy(function(*values)) for function, values in calls]
        source = Random(9)
        for _ in range(600):
            at = source.randrange(len(calls))
            function, values = calls[at]
            told = function(*copy.deepcopy(values))
            self.assertEqual(told, known[at], function.__name__)
            modify(told)
            function, rest = source.choice(WITH_STATE)
            with self.assertRaises(ShelfError):
                function(PLAN, source.choice(WRONG_STATES), *rest)
            function, rest = source.choice(WITH_PLAN)
            with self.assertRaises(ShelfError):
                function(source.choice(WRONG_PLANS)[0], *rest)


if __name__ == "__main__":
    unittest.main()
