"""Tests of movement: point 5, and return times and periods of point 9."""

import unittest

from samples import (
    ALONE, BUSY, FAULTS_OF_PLAN_AND_STATE, HANDED_ON, IDLE, MOST, NOTHING_MOVES, PLAN, STATE,
    History, all_plans, assert_errors_in_order, fill, parcels_of, periodic_plans, scattered,
    unknown_parcels,
)
from swapshelves.effects import effect_of, invert
from swapshelves.errors import InvalidCount, InvalidPlan, InvalidState, UnknownParcel, UnknownPlace
from swapshelves.movement import advance, locate, parcel_at, period, return_time
from swapshelves.plans import pattern_length, places
from swapshelves.states import initial_state, tick

FAR_COUNTS = (MOST, -MOST, MOST - 1, 1 - MOST, MOST - 59, 59 - MOST, 123456789012345678)
WRONG_COUNTS = (MOST + 1, -MOST - 1, 10 ** 30, 10 ** 5000, -10 ** 5000, None, True)
WRONG_PLACES = (
    ("shelf", 0, 1), ("shelf", 1, 2), ("shelf", 2, 0), ("shelf", -1, 0), ("shelf", 0, -1),
    ("carrier", 2), ("carrier", -1), ("carrier",), ("carrier", 0, 0), ("shelf", 0), ("shelf", 0, 0, 0),
    ("carriers", 0), (0, "carrier"), (), ["carrier", 0], "carrier", 0, None, ("carrier", True),
    ("carrier", False), ("shelf", False, 0), ("shelf", 1, True), ("carrier", 10 ** 5000), ("carrier", "0"),
)


def wrong_counts(index):
    """Return the faults of a number of ticks that is the argument with an index."""
    return [(index, count, InvalidCount) for count in WRONG_COUNTS]


def by_effect(plan, state, count):
    """Return the state after a number of ticks by `effect_of`."""
    parcels = list(parcels_of(state))
    for parcel, target in zip(parcels_of(state), effect_of(plan, state[0], count)):
        parcels[target] = parcel
    return fill(plan, state[0] + count, parcels)


class AdvanceTest(unittest.TestCase):
    def test_examples(self):
        self.assertEqual(advance(PLAN, STATE, 3), (3, (1, 3), ((5,), (4, 2))))
        told = advance(PLAN, STATE, 8 * 10 ** 17)
        self.assertEqual(told, (800000000000000000, (1, 2), ((3,), (4, 5))))

    def test_no_ticks(self):
        for plan in all_plans():
            state = scattered(plan, -7)
            self.assertEqual(advance(plan, state, 0), state)

    def test_single_ticks_forward_and_back_again(self):
        for plan in all_plans():
            for time in (-61, -1, 0, 7):
                state = scattered(plan, time)
                states = History(plan, state, 130).states
                for count in (1, 2, 3, 5, 12, 59, 60, 61, 130):
                    self.assertEqual(advance(plan, state, count), states[count])
                    self.assertEqual(advance(plan, states[count], -count), state)
                self.assertEqual(advance(plan, states[100], -37), states[63])

    def test_back_in_time_leads_to_the_given_state(self):
        for plan in all_plans():
            state = scattered(plan, 4)
            for count in (1, 2, 7, 60, 61):
                before = advance(plan, state, -count)
                self.assertEqual(before[0], 4 - count)
                self.assertEqual(History(plan, before, count).states[-1], state)

    def test_whole_periods(self):
        for plan in all_plans():
            state = scattered(plan, 11)
            whole = period(plan, state)
            for rounds in (1, 2, MOST // whole, -1, -(MOST // whole)):
                self.assertEqual(advance(plan, state, rounds * whole), (11 + rounds * whole,) + state[1:])

    def test_far_counts_are_as_whole_periods_and_single_ticks(self):
        for plan in periodic_plans():
            state = scattered(plan, -3)
            whole = period(plan, state)
            states = History(plan, state, whole).states
            for count in FAR_COUNTS:
                told = advance(plan, state, count)
                self.assertEqual(told[0], count - 3)
                self.assertEqual(told[1:], states[count % whole][1:])

    def test_far_and_back_again(self):
        for plan in all_plans():
            for time in (0, 10 ** 30 - MOST, MOST - 10 ** 30):
                state = scattered(plan, time)
                for count in FAR_COUNTS:
                    far = advance(plan, state, count)
                    self.assertEqual(far[0], time + count)
                    self.assertEqual(advance(plan, far, -count), state)

    def test_two_counts_one_behind_the_other(self):
        counts = (5, -8, 1, MOST // 2, -(MOST // 2) + 3, 4 * 10 ** 17)
        for plan in all_plans():
            state = scattered(plan, 2)
            for one in counts:
                for other in counts:
                    told = advance(plan, advance(plan, state, one), other)
                    self.assertEqual(told, advance(plan, state, one + other))

    def test_it_does_what_its_effect_says(self):
        for plan in all_plans():
            state = scattered(plan, 17)
            for count in FAR_COUNTS + (0, 1, -1, 33):
                self.assertEqual(advance(plan, state, count), by_effect(plan, state, count))
                back = invert(effect_of(plan, 17, count))
                self.assertEqual(back, effect_of(plan, 17 + count, -count))

    def test_parcels_do_not_matter(self):
        one = advance(BUSY, initial_state(BUSY), 1234567)
        numbers = list(range(999, 999 - len(parcels_of(one)), -1))
        told = advance(BUSY, fill(BUSY, 0, numbers), 1234567)
        self.assertEqual(parcels_of(told), [1000 - parcel for parcel in parcels_of(one)])

    def test_times_at_their_limits(self):
        for time in (10 ** 30, -10 ** 30):
            state = (time, (1, 2), ((3,), (4, 5)))
            for count in (3, MOST, -MOST):
                near = advance(PLAN, STATE, count)
                self.assertEqual(advance(PLAN, state, count), (time + count,) + near[1:])
            for wrong in (time * 10, time + time // 10 ** 30):
                with self.assertRaises(InvalidState):
                    advance(PLAN, (wrong, (1, 2), ((3,), (4, 5))), 0)

    def test_plans_that_move_nothing(self):
        for plan in (IDLE, ALONE, NOTHING_MOVES):
            state = scattered(plan, 5)
            for count in (1, -1, MOST, -MOST):
                self.assertEqual(advance(plan, state, count), (5 + count,) + state[1:])

    def test_errors_in_their_order(self):
        faults = FAULTS_OF_PLAN_AND_STATE + wrong_counts(2)
        for count in (MOST, -MOST):
            assert_errors_in_order(self, advance, (PLAN, STATE, count), faults)

    def test_the_part_of_a_wrong_plan_is_told(self):
        with self.assertRaises(InvalidPlan) as caught:
            advance(((1, 2), ((0, 1), (2,))), (), MOST + 1)
        self.assertEqual((caught.exception.part, caught.exception.index), ("routes", 1))


class LocateTest(unittest.TestCase):
    def test_examples(self):
        self.assertEqual(locate(PLAN, STATE, 4, 3), ("shelf", 1, 0))
        with self.assertRaises(UnknownParcel):
            locate(PLAN, STATE, 6, 3)

    def test_each_parcel_is_where_advance_has_it(self):
        for plan in all_plans():
            state = scattered(plan, -2)
            for count in (0, 1, 2, 61, -1, -7) + FAR_COUNTS[:3]:
                later = parcels_of(advance(plan, state, count))
                for place, parcel in zip(places(plan), later):
                    self.assertEqual(locate(plan, state, parcel, count), place)

    def test_counts_at_their_limits(self):
        self.assertEqual(locate(PLAN, STATE, 1, MOST), ("carrier", 0))
        self.assertEqual(locate(PLAN, STATE, 1, -MOST), ("carrier", 0))
        self.assertEqual(locate(PLAN, STATE, 1, MOST - 4), locate(PLAN, STATE, 1, 4))

    def test_errors_in_their_order(self):
        faults = FAULTS_OF_PLAN_AND_STATE + unknown_parcels(2) + wrong_counts(3)
        for count in (MOST, -MOST):
            assert_errors_in_order(self, locate, (PLAN, STATE, 5, count), faults)

    def test_a_parcel_is_known_by_its_number_not_by_its_place(self):
        state = (0, (100, 2), ((999,), (4, 50)))
        self.assertEqual(locate(PLAN, state, 100, 0), ("carrier", 0))
        self.assertEqual(locate(PLAN, state, 999, 0), ("shelf", 0, 0))
        for parcel in (1, 3, 5):
            with self.assertRaises(UnknownParcel):
                locate(PLAN, state, parcel, 0)


class ParcelAtTest(unittest.TestCase):
    def test_examples(self):
        self.assertEqual(parcel_at(PLAN, STATE, ("carrier", 0), 4), 4)
        with self.assertRaises(UnknownPlace):
            parcel_at(PLAN, STATE, ("shelf", 0, 1), 4)

    def test_each_place_has_the_parcel_that_advance_has_there(self):
        for plan in all_plans():
            state = scattered(plan, 9)
            for count in (0, 1, 2, 61, -1, -7) + FAR_COUNTS[:3]:
                later = parcels_of(advance(plan, state, count))
                for place, parcel in zip(places(plan), later):
                    self.assertEqual(parcel_at(plan, state, place, count), parcel)

    def test_a_shelf_of_size_0_has_no_place(self):
        for plan in (ALONE, HANDED_ON):
            shelf = plan[0].index(0)
            with self.assertRaises(UnknownPlace):
                parcel_at(plan, initial_state(plan), ("shelf", shelf, 0), 1)

    def test_errors_in_their_order(self):
        faults = FAULTS_OF_PLAN_AND_STATE + [(2, place, UnknownPlace) for place in WRONG_PLACES]
        faults = faults + wrong_counts(3)
        for count in (MOST, -MOST):
            assert_errors_in_order(self, parcel_at, (PLAN, STATE, ("shelf", 1, 1), count), faults)


class EffectOfTest(unittest.TestCase):
    def test_counts_at_their_limits_and_beyond(self):
        faults = [(0, ((1, 10), ((0,),)), InvalidPlan)] + wrong_counts(2)
        for count in (MOST, -MOST):
            assert_errors_in_order(self, effect_of, (PLAN, 0, count), faults)


class ReturnTimeTest(unittest.TestCase):
    def test_examples(self):
        self.assertEqual(return_time(PLAN, STATE, 1), 8)
        self.assertEqual(return_time(PLAN, STATE, 2), 2)

    def test_it_is_as_single_ticks_tell(self):
        for plan in periodic_plans():
            state = scattered(plan, -4)
            length = pattern_length(plan)
            where = History(plan, state, period(plan, state)).where
            for parcel in parcels_of(state):
                count = length
                while where[count][parcel] != where[0][parcel]:
                    count += length
                self.assertEqual(return_time(plan, state, parcel), count)

    def test_a_parcel_may_be_back_within_a_pattern(self):
        plan = ((2,), ((0, None, None, None, None),))
        self.assertEqual(return_time(plan, (0, (1,), ((2, 3),)), 1), 15)
        self.assertEqual(return_time(((1,), ((0, 0, None),)), (0, (1,), ((2,),)), 1), 3)

    def test_what_never_moves_is_back_after_one_pattern(self):
        self.assertEqual(return_time(IDLE, initial_state(IDLE), 3), 1)
        self.assertEqual(return_time(NOTHING_MOVES, initial_state(NOTHING_MOVES), 2), 6)

    def test_it_depends_on_the_plan_and_the_place_not_on_the_parcel(self):
        self.assertEqual(return_time(PLAN, (0, (999, 7), ((1,), (2, 5))), 999), 8)
        self.assertEqual(return_time(PLAN, (0, (999, 7), ((1,), (2, 5))), 7), 2)
        self.assertEqual(return_time(PLAN, (1, (1, 2), ((3,), (4, 5))), 2), 8)
        self.assertEqual(return_time(PLAN, (1, (1, 2), ((3,), (4, 5))), 5), 2)

    def test_far_times(self):
        for time in (10 ** 30, -10 ** 30):
            self.assertEqual(return_time(PLAN, (time,) + STATE[1:], 5), 8)

    def test_errors_in_their_order(self):
        faults = FAULTS_OF_PLAN_AND_STATE + unknown_parcels(2)
        assert_errors_in_order(self, return_time, (PLAN, STATE, 5), faults)


class PeriodTest(unittest.TestCase):
    def test_example(self):
        self.assertEqual(period(PLAN, STATE), 8)

    def test_it_is_as_single_ticks_tell(self):
        for plan in periodic_plans():
            state = scattered(plan, 13)
            length = pattern_length(plan)
            later = state
            count = 0
            while count == 0 or later[1:] != state[1:]:
                for _ in range(length):
                    later, _ = tick(plan, later)
                count += length
            self.assertEqual(period(plan, state), count)

    def test_it_is_a_multiple_of_all_return_times(self):
        for plan in all_plans():
            state = scattered(plan, 0)
            whole = period(plan, state)
            for parcel in parcels_of(state):
                self.assertEqual(whole % return_time(plan, state, parcel), 0)
        self.assertEqual(period(BUSY, initial_state(BUSY)), 1560)

    def test_plans_that_move_nothing(self):
        self.assertEqual(period(IDLE, initial_state(IDLE)), 1)
        self.assertEqual(period(ALONE, initial_state(ALONE)), 1)
        self.assertEqual(period(NOTHING_MOVES, initial_state(NOTHING_MOVES)), 6)

    def test_errors_in_their_order(self):
        assert_errors_in_order(self, period, (PLAN, STATE), FAULTS_OF_PLAN_AND_STATE)


class RepeatedCallsTest(unittest.TestCase):
    def test_equal_arguments_return_equal_results_also_after_errors(self):
        calls = [
            (advance, (PLAN, STATE, 5)), (locate, (PLAN, STATE, 5, 5)),
            (parcel_at, (PLAN, STATE, ("shelf", 1, 1), 5)),
            (return_time, (PLAN, STATE, 5)), (period, (PLAN, STATE)),
        ]
        for function, values in calls:
            first = function(*values)
            with self.assertRaises(InvalidState):
                function(PLAN, (0, (1, 2), ((3,), (4, 4))), *values[2:])
            copies = (((1, 2), ((0, 1), (1,))), (0, (1, 2), ((3,), (4, 5)))) + values[2:]
            self.assertEqual(function(*copies), first)
            self.assertEqual(copies[:2], (PLAN, STATE))


if __name__ == "__main__":
    unittest.main()
