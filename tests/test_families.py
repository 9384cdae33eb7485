"""Tests of families and meetings: points 10 and 11."""

import unittest

from samples import (
    ALONE, FAULTS_OF_PLAN_AND_STATE, HANDED_ON, IDLE, MOST, NOTHING_MOVES, PLAN, STATE,
    History, all_plans, assert_errors_in_order, fill, parcels_of, periodic_plans, random_plan,
    scattered, unknown_parcels,
)
from swapshelves.errors import InvalidCount, UnknownParcel
from swapshelves.families import families, first_meeting, follows_by, never_met, ticks_together
from swapshelves.movement import advance, locate, period, return_time
from swapshelves.plans import pattern_length
from swapshelves.states import initial_state

WRONG_TICKS = [-1, -MOST, MOST + 1, 10 ** 30, 10 ** 5000, None, True]

# Two carriers at one shelf, and a third one that meets nobody.
SHARED = ((1, 0, 1), ((0,), (0, 1), (2,)))


def faults_of_two_parcels():
    """Return the faults of a plan, a state and two parcels."""
    return FAULTS_OF_PLAN_AND_STATE + unknown_parcels(2) + unknown_parcels(3)


def slow_follows_by(plan, state, one, other):
    """Return by how many ticks a parcel follows another one, by `advance`."""
    length = pattern_length(plan)
    target = locate(plan, state, other, 0)
    for ticks in range(0, return_time(plan, state, one), length):
        if locate(plan, state, one, ticks) == target:
            return ticks
    return None


def meetings(history, one, other):
    """Return whether two parcels meet after 0 ticks and after each tick."""
    found = []
    for number in range(len(history.states)):
        shelf = history.shelf(one, number)
        found.append(shelf is not None and shelf == history.shelf(other, number))
    return found


class FollowsByTest(unittest.TestCase):
    def test_examples(self):
        self.assertEqual(follows_by(PLAN, STATE, 5, 1), 2)
        self.assertIsNone(follows_by(PLAN, STATE, 1, 2))

    def test_a_family_in_both_directions(self):
        told = [follows_by(PLAN, STATE, one, 1) for one in (1, 5, 4, 3, 2)]
        self.assertEqual(told, [0, 2, 4, 6, None])
        told = [follows_by(PLAN, STATE, 1, other) for other in (1, 5, 4, 3, 2)]
        self.assertEqual(told, [0, 6, 4, 2, None])

    def test_a_parcel_follows_itself_by_0_ticks(self):
        for plan in all_plans():
            state = scattered(plan, 1)
            for parcel in parcels_of(state):
                self.assertEqual(follows_by(plan, state, parcel, parcel), 0)

    def test_it_is_as_advance_by_whole_patterns_tells(self):
        for plan in periodic_plans():
            state = scattered(plan, -9)
            parcels = parcels_of(state)
            for one in parcels[:8] + parcels[-2:]:
                for other in parcels[:9] + parcels[-2:]:
                    told = follows_by(plan, state, one, other)
                    self.assertEqual(told, slow_follows_by(plan, state, one, other))

    def test_then_it_is_where_the_other_one_is_now(self):
        for plan in all_plans():
            state = scattered(plan, 5)
            parcels = parcels_of(state)
            for one in parcels:
                ticks = follows_by(plan, state, one, parcels[0])
                if ticks is not None:
                    self.assertEqual(ticks % pattern_length(plan), 0)
                    later = parcels_of(advance(plan, state, ticks))
                    self.assertEqual(later[0], one)

    def test_places_within_a_pattern_do_not_count(self):
        plan = ((1,), ((0, 0, None),))
        state = (0, (1,), ((2,),))
        self.assertEqual(locate(plan, state, 2, 1), ("carrier", 0))
        self.assertIsNone(follows_by(plan, state, 2, 1))
        # A route that repeats itself has a shorter pattern.
        self.assertEqual(follows_by(((1,), ((0, 0),)), state, 2, 1), 1)

    def test_errors_in_their_order(self):
        assert_errors_in_order(self, follows_by, (PLAN, STATE, 5, 1), faults_of_two_parcels())
        assert_errors_in_order(self, follows_by, (PLAN, STATE, 1, 2), faults_of_two_parcels())


class FamiliesTest(unittest.TestCase):
    def test_example(self):
        self.assertEqual(families(PLAN, STATE), [[1, 5, 4, 3], [2]])

    def test_each_parcel_is_in_one_family(self):
        for plan in all_plans():
            state = scattered(plan, 0)
            found = families(plan, state)
            flat = [parcel for family in found for parcel in family]
            self.assertEqual(sorted(flat), sorted(parcels_of(state)))
            self.assertEqual(found, sorted(found))
            for family in found:
                self.assertIs(type(family), list)
                self.assertEqual(family[0], min(family))

    def test_each_follows_the_one_before_it_by_one_pattern(self):
        for plan in all_plans():
            state = scattered(plan, -2)
            length = pattern_length(plan)
            for family in families(plan, state):
                for one, next_one in zip(family, family[1:] + family[:1]):
                    told = locate(plan, state, next_one, length)
                    self.assertEqual(told, locate(plan, state, one, 0))
                for index, parcel in enumerate(family):
                    self.assertEqual(follows_by(plan, state, parcel, family[0]), index * length)

    def test_parcels_of_different_families_do_not_follow(self):
        for plan in periodic_plans():
            state = scattered(plan, 3)
            found = families(plan, state)
            for family in found[:3]:
                for stranger in found[-1] if family != found[-1] else []:
                    self.assertIsNone(follows_by(plan, state, stranger, family[-1]))

    def test_families_begin_with_their_smallest_parcel_wherever_it_is(self):
        state = (0, (9, 2), ((8,), (7, 6)))
        self.assertEqual(families(PLAN, state), [[2], [6, 7, 8, 9]])
        state = (0, (999, 500), ((1,), (600, 400)))
        self.assertEqual(families(PLAN, state), [[1, 999, 400, 600], [500]])

    def test_plans_that_move_nothing(self):
        for plan in (IDLE, ALONE, NOTHING_MOVES):
            many = len(plan[1]) + sum(plan[0])
            state = fill(plan, 0, range(many, 0, -1))
            self.assertEqual(families(plan, state), [[parcel] for parcel in range(1, many + 1)])

    def test_errors_in_their_order(self):
        assert_errors_in_order(self, families, (PLAN, STATE), FAULTS_OF_PLAN_AND_STATE)


class MeetingsTest(unittest.TestCase):
    def test_they_are_as_single_ticks_tell(self):
        for plan in periodic_plans():
            state = scattered(plan, 6)
            whole = period(plan, state)
            history = History(plan, state, whole + 3)
            parcels = parcels_of(state)
            for one in parcels[:3] + parcels[-3:]:
                for other in parcels[:6] + parcels[-1:]:
                    self.assert_meetings(plan, state, one, other, whole, meetings(history, one, other))

    def assert_meetings(self, plan, state, one, other, whole, told):
        first = told.index(True) if True in told else None
        self.assertEqual(first_meeting(plan, state, one, other), first)
        for count in (0, 1, 2, whole // 3, whole - 1, whole, whole + 1, whole + 3):
            many = told[1:count + 1].count(True)
            self.assertEqual(ticks_together(plan, state, one, other, count), many)
        far = MOST // whole * told[1:whole + 1].count(True) + told[1:MOST % whole + 1].count(True)
        self.assertEqual(ticks_together(plan, state, one, other, MOST), far)

    def test_never_met_is_as_single_ticks_tell(self):
        for plan in periodic_plans():
            state = scattered(plan, -8)
            history = History(plan, state, period(plan, state))
            parcels = parcels_of(state)
            for one in parcels[:4] + parcels[-2:]:
                told = [other for other in sorted(parcels) if other != one]
                told = [other for other in told if True not in meetings(history, one, other)]
                self.assertEqual(never_met(plan, state, one), told)

    def test_they_do_not_depend_on_who_is_asked_first(self):
        for plan in all_plans():
            state = scattered(plan, 4)
            parcels = parcels_of(state)
            for one, other in ((parcels[0], parcels[-1]), (parcels[-1], parcels[len(parcels) // 2])):
                self.assertEqual(first_meeting(plan, state, one, other), first_meeting(plan, state, other, one))
                for count in (0, 9, MOST):
                    told = ticks_together(plan, state, one, other, count)
                    self.assertEqual(ticks_together(plan, state, other, one, count), told)
                met = other not in never_met(plan, state, one)
                if one != other:
                    self.assertEqual(met, one not in never_met(plan, state, other))
                    self.assertEqual(met, first_meeting(plan, state, one, other) is not None)


class FirstMeetingTest(unittest.TestCase):
    def test_examples(self):
        self.assertEqual(first_meeting(PLAN, STATE, 1, 3), 4)
        self.assertIsNone(first_meeting(PLAN, STATE, 1, 4))

    def test_after_0_ticks(self):
        self.assertEqual(first_meeting(PLAN, STATE, 4, 5), 0)
        self.assertEqual(first_meeting(IDLE, initial_state(IDLE), 3, 4), 0)

    def test_after_1_tick(self):
        self.assertEqual(first_meeting(PLAN, STATE, 2, 5), 1)

    def test_a_parcel_and_itself(self):
        self.assertEqual(first_meeting(PLAN, STATE, 1, 1), 1)
        self.assertEqual(first_meeting(PLAN, STATE, 3, 3), 0)
        self.assertEqual(first_meeting(PLAN, STATE, 2, 2), 1)
        self.assertIsNone(first_meeting(ALONE, (0, (7,), ((),)), 7, 7))
        self.assertIsNone(first_meeting(IDLE, initial_state(IDLE), 1, 1))

    def test_carriers_at_one_shelf_are_not_on_it(self):
        state = (0, (1, 2, 3), ((4,), (), (5,)))
        history = History(SHARED, state, 60)
        self.assertIsNone(first_meeting(SHARED, state, 1, 2))
        self.assertNotIn(True, meetings(history, 1, 2))
        plan = ((2,), ((0,), (0,)))
        self.assertEqual(first_meeting(plan, (0, (1, 2), ((3, 4),)), 1, 2), 1)

    def test_shelves_are_not_mixed_up(self):
        state = (0, (1, 2, 3), ((4,), (), (5,)))
        for one in (1, 2, 4):
            for other in (3, 5):
                self.assertIsNone(first_meeting(SHARED, state, one, other))
        self.assertIsNone(first_meeting(((1, 1), ((None,),)), (0, (1,), ((2,), (3,))), 2, 3))

    def test_families_of_large_plans(self):
        for seed in (3, 7, 14):
            plan = random_plan(seed)
            state = scattered(plan, 2)
            parcels = parcels_of(state)
            for other in parcels[::5]:
                ticks = first_meeting(plan, state, parcels[0], other)
                if ticks is not None:
                    one_place = locate(plan, state, parcels[0], ticks)
                    self.assertEqual(one_place[:2], locate(plan, state, other, ticks)[:2])
                    self.assertEqual(one_place[0], "shelf")
                    self.assertEqual(ticks_together(plan, state, parcels[0], other, max(ticks - 1, 0)), 0)

    def test_errors_in_their_order(self):
        assert_errors_in_order(self, first_meeting, (PLAN, STATE, 5, 1), faults_of_two_parcels())


class TicksTogetherTest(unittest.TestCase):
    def test_example(self):
        self.assertEqual(ticks_together(PLAN, STATE, 1, 3, 8), 1)

    def test_limits_of_counts(self):
        self.assertEqual(ticks_together(PLAN, STATE, 4, 5, 0), 0)
        self.assertEqual(ticks_together(PLAN, STATE, 1, 3, 3), 0)
        self.assertEqual(ticks_together(PLAN, STATE, 1, 3, 4), 1)
        self.assertEqual(ticks_together(PLAN, STATE, 1, 3, MOST), MOST // 8)
        self.assertEqual(ticks_together(PLAN, STATE, 1, 4, MOST), 0)
        self.assertEqual(ticks_together(IDLE, initial_state(IDLE), 3, 4, MOST), MOST)

    def test_a_parcel_and_itself(self):
        state = initial_state(HANDED_ON)
        history = History(HANDED_ON, state, 40)
        for parcel in parcels_of(state):
            found = [history.shelf(parcel, number) is not None for number in range(1, 41)]
            self.assertEqual(ticks_together(HANDED_ON, state, parcel, parcel, 40), found.count(True))
        self.assertEqual(ticks_together(ALONE, (0, (7,), ((),)), 7, 7, MOST), 0)

    def test_two_parts_add_up(self):
        for plan in all_plans():
            state = scattered(plan, 1)
            parcels = parcels_of(state)
            for one, other in ((3, 58), (4 * 10 ** 17, 6 * 10 ** 17), (MOST - 1, 1)):
                later = advance(plan, state, one)
                for parcel in parcels[1::6]:
                    told = ticks_together(plan, state, parcels[0], parcel, one)
                    told += ticks_together(plan, later, parcels[0], parcel, other)
                    self.assertEqual(ticks_together(plan, state, parcels[0], parcel, one + other), told)

    def test_errors_in_their_order(self):
        faults = faults_of_two_parcels() + [(4, wrong, InvalidCount) for wrong in WRONG_TICKS]
        for count in (0, MOST):
            assert_errors_in_order(self, ticks_together, (PLAN, STATE, 5, 1, count), faults)


class NeverMetTest(unittest.TestCase):
    def test_example(self):
        self.assertEqual(never_met(PLAN, STATE, 1), [4])

    def test_the_parcel_itself_is_not_contained(self):
        self.assertEqual(never_met(ALONE, (0, (7,), ((),)), 7), [])
        for plan in all_plans():
            state = scattered(plan, 0)
            for parcel in parcels_of(state)[:5]:
                told = never_met(plan, state, parcel)
                self.assertNotIn(parcel, told)
                self.assertEqual(told, sorted(told))

    def test_who_is_never_on_a_shelf_meets_nobody(self):
        self.assertEqual(never_met(IDLE, (0, (5, 9), ((8, 2), ())), 9), [2, 5, 8])
        self.assertEqual(never_met(IDLE, (0, (5, 9), ((8, 2), ())), 8), [5, 9])
        self.assertEqual(never_met(NOTHING_MOVES, (0, (3, 1, 2), ((), (), ())), 3), [1, 2])

    def test_errors_in_their_order(self):
        faults = FAULTS_OF_PLAN_AND_STATE + unknown_parcels(2)
        assert_errors_in_order(self, never_met, (PLAN, STATE, 5), faults)


class RepeatedCallsTest(unittest.TestCase):
    CALLS = [
        (follows_by, (5, 1)), (families, ()), (first_meeting, (1, 3)),
        (ticks_together, (1, 3, 8)), (never_met, (1,)),
    ]

    def test_equal_arguments_return_equal_results_also_after_errors(self):
        for function, values in self.CALLS:
            plan = ((1, 2), ((0, 1), (1,)))
            state = (0, (1, 2), ((3,), (4, 5)))
            first = function(plan, state, *values)
            if values:
                with self.assertRaises(UnknownParcel):
                    function(plan, state, 6, *values[1:])
            self.assertEqual(function(plan, state, *values), first)
            self.assertEqual((plan, state), (PLAN, STATE))

    def test_returned_lists_may_be_modified(self):
        told = families(PLAN, STATE)
        told[0].clear()
        told.append(None)
        self.assertEqual(families(PLAN, STATE), [[1, 5, 4, 3], [2]])
        never_met(PLAN, STATE, 1).append(None)
        self.assertEqual(never_met(PLAN, STATE, 1), [4])


if __name__ == "__main__":
    unittest.main()
