"""Tests of plans: point 2 and the places of point 3."""

import unittest

from samples import ALONE, BUSY, IDLE, NOTHING_MOVES, PLAN, all_plans
from swapshelves.counting import (
    arrival, nth_left, stamp_at, stamps, ticks_carried, ticks_on_shelf, times_left,
)
from swapshelves.effects import effect_of
from swapshelves.errors import InvalidPlan
from swapshelves.families import families, first_meeting, follows_by, never_met, ticks_together
from swapshelves.movement import advance, locate, parcel_at, period, return_time
from swapshelves.observers import Observer, watched, watching_time
from swapshelves.plans import pattern_length, places, visits
from swapshelves.states import apply_effect, initial_state, tick

FAR = 10 ** 40
WRONG = (None, (), ())


def calls(plan):
    """Return calls of all functions with a plan, all else in them being wrong."""
    return [
        lambda: pattern_length(plan),
        lambda: visits(plan, 1),
        lambda: places(plan),
        lambda: initial_state(plan),
        lambda: tick(plan, WRONG),
        lambda: apply_effect(plan, WRONG, (7,)),
        lambda: effect_of(plan, 0, FAR),
        lambda: advance(plan, WRONG, FAR),
        lambda: locate(plan, WRONG, 0, FAR),
        lambda: parcel_at(plan, WRONG, (), FAR),
        lambda: return_time(plan, WRONG, 0),
        lambda: period(plan, WRONG),
        lambda: times_left(plan, WRONG, 0, -1, FAR),
        lambda: ticks_carried(plan, WRONG, 0, -1, FAR),
        lambda: ticks_on_shelf(plan, WRONG, 0, -1, FAR),
        lambda: nth_left(plan, WRONG, 0, -1, FAR),
        lambda: stamps(plan, WRONG, 0, FAR),
        lambda: stamp_at(plan, WRONG, 0, FAR),
        lambda: arrival(plan, WRONG, 0, ()),
        lambda: follows_by(plan, WRONG, 0, 0),
        lambda: families(plan, WRONG),
        lambda: first_meeting(plan, WRONG, 0, 0),
        lambda: ticks_together(plan, WRONG, 0, 0, FAR),
        lambda: never_met(plan, WRONG, 0),
        lambda: Observer(plan, 0, (0,)),
        lambda: watched(plan, 0, -1, FAR),
        lambda: watching_time(plan, 0, -1),
    ]


class PlanErrorsTest(unittest.TestCase):
    def assert_wrong(self, plan, part, index):
        for call in calls(plan):
            with self.assertRaises(InvalidPlan) as caught:
                call()
            self.assertEqual((caught.exception.part, caught.exception.index), (part, index))

    def assert_right(self, plan):
        self.assertEqual(len(places(plan)), len(plan[1]) + sum(plan[0]))
        visits(plan, 1)
        pattern_length(plan)

    def test_example(self):
        self.assert_wrong(((1, 10), ((0,),)), "sizes", 1)

    def test_number_of_shelves(self):
        self.assert_wrong(((), ((None,),)), "sizes", -1)
        self.assert_right(((1,), ((0,),)))
        self.assert_right(((1,) * 12, ((11,),)))
        self.assert_wrong(((1,) * 13, ((0,),)), "sizes", -1)

    def test_sizes(self):
        for index in range(3):
            for size in (-1, 10, 10 ** 5000, -10 ** 5000):
                sizes = (1,) * index + (size,) + (9,) * (2 - index)
                self.assert_wrong((sizes, ((0,),)), "sizes", index)
        self.assert_right(((0, 9), ((0,),)))

    def test_the_first_invalid_size_is_told(self):
        self.assert_wrong(((0, 9, 10, -1), ((0,),)), "sizes", 2)

    def test_number_of_routes(self):
        self.assert_wrong(((1,), ()), "routes", -1)
        self.assert_right(((1,), ((0,),)))
        self.assert_right(((1,), ((0,),) * 6))
        self.assert_wrong(((1,), ((0,),) * 7), "routes", -1)

    def test_number_of_entries(self):
        for index in range(3):
            for length in (0, 7):
                routes = ((0,),) * index + ((0,) * length,) + ((0,),) * (2 - index)
                self.assert_wrong(((1,), routes), "routes", index)
        self.assert_right(((1,), ((0,), (0,) * 6, (None,), (None,) * 6)))

    def test_entries(self):
        for shelves in (1, 2, 12):
            sizes = (1,) * shelves
            self.assert_right((sizes, ((0, shelves - 1, None),)))
            for entry in (-1, shelves, 10 ** 5000):
                self.assert_wrong((sizes, ((0,), (0, None, entry))), "routes", 1)
                self.assert_wrong((sizes, ((entry,),)), "routes", 0)

    def test_the_first_invalid_route_is_told(self):
        self.assert_wrong(((1,), ((0,), (), (1,), (-1,))), "routes", 1)

    def test_sizes_come_before_routes(self):
        self.assert_wrong(((1, 10), ()), "sizes", 1)
        self.assert_wrong(((), ((5,),)), "sizes", -1)
        self.assert_wrong(((-1,), ((0,) * 7,)), "sizes", 0)

    def test_a_wrong_number_comes_before_wrong_items(self):
        self.assert_wrong(((1, 10) + (1,) * 11, ((0,),)), "sizes", -1)
        self.assert_wrong(((1,), ((0,), (9,)) + ((0,),) * 5), "routes", -1)

    def test_values_of_other_kinds_are_no_sizes_and_no_routes(self):
        self.assert_wrong(((1, None), ((0,),)), "sizes", 1)
        self.assert_wrong(((True,), ((0,),)), "sizes", 0)
        self.assert_wrong(((1,), ((0,), None)), "routes", 1)
        self.assert_wrong(((1, 1), ((True,),)), "routes", 0)


class PatternLengthTest(unittest.TestCase):
    def test_example(self):
        self.assertEqual(pattern_length(PLAN), 2)

    def test_routes_of_different_lengths(self):
        sizes = (1, 1, 1, 1, 1, 1)
        self.assertEqual(pattern_length((sizes, ((0, 1), (0, 1, 2)))), 6)
        self.assertEqual(pattern_length((sizes, ((0, 1, 2, 3), (0, 1, 2, 3, 4, 5)))), 12)
        routes = ((0,), (0, 1), (0, 1, 2), (0, 1, 2, 3), (0, 1, 2, 3, 4), (0, 1, 2, 3, 4, 5))
        self.assertEqual(pattern_length((sizes, routes)), 60)

    def test_a_route_that_repeats_itself(self):
        self.assertEqual(pattern_length(((1, 1), ((0, 1, 0, 1),))), 2)
        self.assertEqual(pattern_length(((1, 1), ((0, 0, 0, 0, 0, 0),))), 1)
        self.assertEqual(pattern_length(((1, 1), ((0, 1, None, 0, 1, None),))), 3)
        self.assertEqual(pattern_length(((1, 1), ((0, 1, 0, 1, 0),))), 5)
        self.assertEqual(pattern_length(((1, 1), ((0, 0, 1, 0, 0, 1), (1, 0, 1, 0)))), 6)

    def test_rests(self):
        self.assertEqual(pattern_length(IDLE), 1)
        self.assertEqual(pattern_length(((1,), ((None, 0),))), 2)
        self.assertEqual(pattern_length(((1,), ((None, 0, None, 0), (None,) * 5))), 2)

    def test_it_is_the_smallest_number_after_which_visits_repeat(self):
        for plan in all_plans():
            length = pattern_length(plan)
            seen = [visits(plan, number) for number in range(120)]
            fits = [steps for steps in range(1, 61) if seen[steps:steps + 60] == seen[:60]]
            self.assertEqual(length, fits[0], plan)


class VisitsTest(unittest.TestCase):
    def test_examples(self):
        self.assertEqual(visits(PLAN, 1), [(0, 0), (1, 1)])
        self.assertEqual(visits(PLAN, 0), [(0, 1), (1, 1)])

    def test_positive_zero_and_negative_ticks(self):
        plan = ((1, 1, 1), ((0, 1, 2),))
        told = [visits(plan, number) for number in range(-4, 5)]
        self.assertEqual(told, [[(0, shelf)] for shelf in (1, 2, 0, 1, 2, 0, 1, 2, 0)])

    def test_carriers_who_rest_are_left_out(self):
        self.assertEqual(visits(BUSY, 1), [(0, 1), (1, 1), (2, 2), (4, 2)])
        self.assertEqual(visits(BUSY, 2), [(0, 2), (1, 1), (2, 0), (3, 2), (4, 2)])
        self.assertEqual(visits(BUSY, 3), [(1, 1), (2, 3), (4, 3)])
        self.assertEqual(visits(BUSY, -1), [(0, 2), (1, 1), (2, 3)])
        self.assertEqual(visits(IDLE, 5), [])

    def test_very_large_ticks(self):
        plan = ((1, 1, 1), ((0, 1, 2),))
        self.assertEqual(visits(plan, 3 * 10 ** 40), [(0, 2)])
        self.assertEqual(visits(plan, 3 * 10 ** 40 + 1), [(0, 0)])
        self.assertEqual(visits(plan, -3 * 10 ** 40), [(0, 2)])
        self.assertEqual(visits(plan, -3 * 10 ** 40 - 1), [(0, 1)])
        for number in range(-5, 5):
            for far in (60 * 10 ** 18, -60 * 10 ** 50):
                self.assertEqual(visits(BUSY, number + far), visits(BUSY, number))


class PlacesTest(unittest.TestCase):
    def test_example(self):
        told = [("carrier", 0), ("carrier", 1), ("shelf", 0, 0), ("shelf", 1, 0), ("shelf", 1, 1)]
        self.assertEqual(places(PLAN), told)

    def test_shelves_of_size_0_have_no_places(self):
        self.assertEqual(places(ALONE), [("carrier", 0)])
        self.assertEqual(places(NOTHING_MOVES), [("carrier", 0), ("carrier", 1), ("carrier", 2)])
        told = [("carrier", 0), ("shelf", 1, 0), ("shelf", 3, 0)]
        self.assertEqual(places(((0, 1, 0, 1), ((0,),))), told)

    def test_a_plan_at_all_limits(self):
        told = places(((9,) * 12, ((0,) * 6,) * 6))
        self.assertEqual(len(told), 114)
        self.assertEqual(told[5:8], [("carrier", 5), ("shelf", 0, 0), ("shelf", 0, 1)])
        self.assertEqual(told[-1], ("shelf", 11, 8))


class RepeatedCallsTest(unittest.TestCase):
    def test_a_returned_list_may_be_modified(self):
        for call in (lambda: visits(PLAN, 1), lambda: places(PLAN)):
            first = call()
            kept = list(first)
            first.clear()
            self.assertEqual(call(), kept)
            call().append(None)
            self.assertEqual(call(), kept)

    def test_arguments_are_unchanged_also_by_errors(self):
        plan = ((1, 2), ((0, 1), (1,)))
        pattern_length(plan)
        visits(plan, -3)
        places(plan)
        self.assertEqual(plan, PLAN)
        wrong = ((1, 10), ((0,),))
        for call in calls(wrong):
            with self.assertRaises(InvalidPlan):
                call()
        self.assertEqual(wrong, ((1, 10), ((0,),)))
        self.assertEqual(pattern_length(plan), 2)


if __name__ == "__main__":
    unittest.main()
