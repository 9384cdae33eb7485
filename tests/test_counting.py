"""Tests of counting: point 8, and arrivals of point 9."""

import unittest

from samples import (
    ALONE, BUSY, FAULTS_OF_PLAN_AND_STATE, HANDED_ON, IDLE, MOST, NOTHING_MOVES, PLAN, STATE,
    History, all_plans, assert_errors_in_order, parcels_of, periodic_plans, scattered,
    unknown_parcels,
)
from swapshelves.counting import (
    arrival, nth_left, stamp_at, stamps, ticks_carried, ticks_on_shelf, times_left,
)
from swapshelves.errors import InvalidCount, UnknownCarrier, UnknownParcel, UnknownPlace, UnknownShelf
from swapshelves.movement import advance, period, return_time
from swapshelves.plans import pattern_length, places
from swapshelves.states import initial_state

HUGE = 10 ** 5000
WRONG_TICKS = [-1, -MOST, MOST + 1, 10 ** 30, HUGE, -HUGE, None, True]
WRONG_TIMES = [0, -1, -MOST, MOST + 1, 10 ** 30, HUGE, None, True]
FAR_COUNTS = (MOST, MOST - 1, MOST - 59, 123456789012345678)


def faults(*told):
    """Return the faults of a plan, a state, a parcel and further arguments, in order."""
    found = FAULTS_OF_PLAN_AND_STATE + unknown_parcels(2)
    for index, values, error in told:
        found = found + [(index, wrong, error) for wrong in values]
    return found


class CountingTest(unittest.TestCase):
    @classmethod
    def setUpClass(cls):
        """Perform single ticks over a whole period and some more, for several plans."""
        cls.cases = []
        for plan in periodic_plans():
            state = scattered(plan, -5)
            whole = period(plan, state)
            cls.cases.append((plan, state, whole, History(plan, state, whole + pattern_length(plan))))

    def counts_of(self, plan, state, parcel, whole):
        """Return some numbers of ticks, those around the ends of journeys among them."""
        back = return_time(plan, state, parcel)
        length = pattern_length(plan)
        if whole <= 12:
            return list(range(whole + length + 1))
        found = [0, 1, 2, length - 1, length, length + 1, back - 1, back, whole - 1, whole]
        return sorted(set(found + [back // 3, whole * 2 // 3, whole + length - 1]))

    def test_the_plans_are_as_these_tests_need_them(self):
        plans = [plan for plan, _, _, _ in self.cases]
        self.assertTrue(any(0 in plan[0] for plan in plans))
        self.assertTrue(any(None in route for plan in plans for route in plan[1]))
        told = History(HANDED_ON, scattered(HANDED_ON, 0), 1)
        parcel = told.states[0][1][0]
        self.assertIn((parcel, 0), told.lefts[1])
        self.assertEqual(told.where[1][parcel], ("carrier", 1))

    def test_all_counts_are_as_single_ticks_tell(self):
        for plan, state, whole, history in self.cases:
            for parcel in parcels_of(state)[:20]:
                for count in self.counts_of(plan, state, parcel, whole):
                    self.assert_counts(plan, state, parcel, count, history)

    def assert_counts(self, plan, state, parcel, count, history):
        lefts = [shelf for tick, shelf in history.stamps(parcel) if tick <= count]
        found = [history.where[tick][parcel] for tick in range(1, count + 1)]
        shelves = [place[1] for place in found if place[0] == "shelf"]
        for shelf in range(len(plan[0])):
            self.assertEqual(times_left(plan, state, parcel, shelf, count), lefts.count(shelf))
            self.assertEqual(ticks_on_shelf(plan, state, parcel, shelf, count), shelves.count(shelf))
        for carrier in range(len(plan[1])):
            told = ticks_carried(plan, state, parcel, carrier, count)
            self.assertEqual(told, found.count(("carrier", carrier)))

    def test_nth_left_is_as_single_ticks_tell(self):
        for plan, state, whole, history in self.cases:
            for parcel in parcels_of(state)[:20]:
                for shelf in range(len(plan[0])):
                    found = [tick for tick, left in history.stamps(parcel) if left == shelf]
                    if not found:
                        self.assertIsNone(nth_left(plan, state, parcel, shelf, 1))
                        self.assertIsNone(nth_left(plan, state, parcel, shelf, MOST))
                    for number in sorted(set([1, 2, len(found) // 2, len(found) - 1, len(found)])):
                        if 1 <= number <= len(found):
                            told = nth_left(plan, state, parcel, shelf, number)
                            self.assertEqual(told, found[number - 1])

    def test_stamps_are_as_single_ticks_tell(self):
        for plan, state, whole, history in self.cases:
            for parcel in parcels_of(state)[:20]:
                found = [shelf for _, shelf in history.stamps(parcel)]
                many = min(len(found), 200)
                for count in (0, 1, many // 2, many):
                    self.assertEqual(stamps(plan, state, parcel, count), found[:min(count, many)])
                for number in (1, 2, len(found) // 2, len(found)):
                    told = stamp_at(plan, state, parcel, max(number, 1))
                    if not found:
                        self.assertIsNone(told)
                    elif number <= len(found):
                        self.assertEqual(told, found[max(number, 1) - 1])

    def test_arrival_is_as_single_ticks_tell(self):
        for plan, state, whole, history in self.cases:
            for parcel in parcels_of(state)[:20]:
                firsts = {}
                for number, where in enumerate(history.where[:whole + 1]):
                    firsts.setdefault(where[parcel], number)
                for place in places(plan):
                    self.assertEqual(arrival(plan, state, parcel, place), firsts.get(place))

    def test_whole_journeys_and_far_counts(self):
        for plan, state, whole, history in self.cases:
            for parcel in parcels_of(state)[:12]:
                for count in (MOST, MOST - 7):
                    rounds, rest = divmod(count, whole)
                    self.assert_far(plan, state, parcel, count, rounds, rest)

    def assert_far(self, plan, state, parcel, count, rounds, rest):
        """Compare a far count with whole periods and what is left of it."""
        whole = period(plan, state)
        calls = [(times_left, shelf) for shelf in range(len(plan[0]))]
        calls += [(ticks_on_shelf, shelf) for shelf in range(len(plan[0]))]
        calls += [(ticks_carried, carrier) for carrier in range(len(plan[1]))]
        for function, at in calls:
            told = rounds * function(plan, state, parcel, at, whole)
            told += function(plan, state, parcel, at, rest)
            self.assertEqual(function(plan, state, parcel, at, count), told)

    def test_counts_of_two_parts_add_up(self):
        parts = ((0, 17), (100, 61), (5 * 10 ** 17, 5 * 10 ** 17), (MOST - 3, 3), (77, MOST - 777))
        for plan in all_plans():
            state = scattered(plan, 3)
            parcels = parcels_of(state)
            for one, other in parts:
                later = advance(plan, state, one)
                for parcel in (parcels[0], parcels[-1]):
                    for function, at in ((times_left, 0), (ticks_on_shelf, 0), (ticks_carried, 0)):
                        told = function(plan, state, parcel, at, one)
                        told += function(plan, later, parcel, at, other)
                        self.assertEqual(function(plan, state, parcel, at, one + other), told)

    def test_each_tick_leads_to_a_carrier_or_a_shelf(self):
        for plan in all_plans():
            state = scattered(plan, 8)
            for parcel in parcels_of(state)[:5]:
                for count in FAR_COUNTS:
                    told = sum(ticks_on_shelf(plan, state, parcel, at, count) for at in range(len(plan[0])))
                    told += sum(ticks_carried(plan, state, parcel, at, count) for at in range(len(plan[1])))
                    self.assertEqual(told, count)

    def test_far_nth_left_and_stamps_fit_to_the_counts(self):
        for plan in all_plans():
            state = scattered(plan, -1)
            for parcel in parcels_of(state)[:6]:
                for shelf in range(min(len(plan[0]), 3)):
                    for number in (1, 5, 10 ** 15, 10 ** 15 + 1):
                        ticks = nth_left(plan, state, parcel, shelf, number)
                        if ticks is not None:
                            self.assertEqual(times_left(plan, state, parcel, shelf, ticks), number)
                            self.assertEqual(times_left(plan, state, parcel, shelf, ticks - 1), number - 1)
                            before = sum(times_left(plan, state, parcel, at, ticks) for at in range(len(plan[0])))
                            self.assertEqual(stamp_at(plan, state, parcel, before), shelf)


class TimesLeftTest(unittest.TestCase):
    def test_example(self):
        self.assertEqual(times_left(PLAN, STATE, 1, 1, 8), 2)

    def test_limits_of_counts(self):
        self.assertEqual(times_left(PLAN, STATE, 1, 1, 0), 0)
        self.assertEqual(times_left(PLAN, STATE, 1, 1, MOST), MOST // 4)
        self.assertEqual(times_left(PLAN, STATE, 2, 1, MOST), MOST // 2)
        self.assertEqual(times_left(PLAN, STATE, 2, 0, MOST), 0)

    def test_a_shelf_of_size_0(self):
        for count in (0, 1, 7, MOST):
            self.assertEqual(times_left(ALONE, (0, (9,), ((),)), 9, 0, count), count)
        state = (0, (1, 2, 3), ((), (), ()))
        told = [times_left(NOTHING_MOVES, state, 3, shelf, 10) for shelf in range(3)]
        self.assertEqual(told, [3, 3, 4])
        told = [times_left(NOTHING_MOVES, state, 2, shelf, MOST) for shelf in range(3)]
        self.assertEqual(told, [0, 0, 0])

    def test_a_parcel_that_is_taken_in_the_same_tick_was_left(self):
        plan = ((1,), ((0,), (0,)))
        state = (0, (1, 2), ((3,),))
        self.assertEqual([times_left(plan, state, 1, 0, count) for count in range(5)], [0, 1, 2, 2, 3])
        self.assertEqual([ticks_carried(plan, state, 1, 1, count) for count in range(5)], [0, 1, 1, 1, 2])
        self.assertEqual([ticks_on_shelf(plan, state, 1, 0, count) for count in range(5)], [0, 0, 1, 1, 1])

    def test_errors_in_their_order(self):
        told = faults((3, [2, -1, HUGE, None, True], UnknownShelf), (4, WRONG_TICKS, InvalidCount))
        for count in (0, MOST):
            assert_errors_in_order(self, times_left, (PLAN, STATE, 5, 1, count), told)


class TicksCarriedTest(unittest.TestCase):
    def test_example(self):
        self.assertEqual(ticks_carried(PLAN, STATE, 1, 0, 8), 2)

    def test_limits_of_counts(self):
        self.assertEqual(ticks_carried(PLAN, STATE, 1, 0, 0), 0)
        self.assertEqual(ticks_carried(PLAN, STATE, 1, 0, MOST), MOST // 4)
        self.assertEqual(ticks_carried(IDLE, initial_state(IDLE), 2, 1, MOST), MOST)
        self.assertEqual(ticks_carried(IDLE, initial_state(IDLE), 2, 0, MOST), 0)

    def test_a_carrier_takes_its_parcel_back_from_a_shelf_of_size_0(self):
        self.assertEqual(ticks_carried(ALONE, (0, (9,), ((),)), 9, 0, 7), 7)

    def test_errors_in_their_order(self):
        told = faults((3, [2, -1, HUGE, None, True], UnknownCarrier), (4, WRONG_TICKS, InvalidCount))
        for count in (0, MOST):
            assert_errors_in_order(self, ticks_carried, (PLAN, STATE, 5, 1, count), told)

    def test_carriers_and_shelves_have_numbers_of_their_own(self):
        plan = ((1,), ((0,), (0,)))
        state = (0, (1, 2), ((3,),))
        ticks_carried(plan, state, 1, 1, 1)
        with self.assertRaises(UnknownShelf):
            times_left(plan, state, 1, 1, 1)
        with self.assertRaises(UnknownShelf):
            ticks_on_shelf(plan, state, 1, 1, 1)
        with self.assertRaises(UnknownCarrier):
            ticks_carried(((1, 1), ((0,),)), (0, (1,), ((2,), (3,))), 1, 1, 1)


class TicksOnShelfTest(unittest.TestCase):
    def test_example(self):
        self.assertEqual(ticks_on_shelf(PLAN, STATE, 1, 0, 8), 2)

    def test_limits_of_counts(self):
        self.assertEqual(ticks_on_shelf(PLAN, STATE, 1, 0, 0), 0)
        self.assertEqual(ticks_on_shelf(PLAN, STATE, 3, 0, 0), 0)
        self.assertEqual(ticks_on_shelf(PLAN, STATE, 1, 0, MOST), MOST // 4)
        self.assertEqual(ticks_on_shelf(IDLE, initial_state(IDLE), 3, 0, MOST), MOST)

    def test_nothing_is_ever_on_a_shelf_of_size_0(self):
        self.assertEqual(ticks_on_shelf(ALONE, (0, (9,), ((),)), 9, 0, MOST), 0)

    def test_errors_in_their_order(self):
        told = faults((3, [2, -1, HUGE, None, True], UnknownShelf), (4, WRONG_TICKS, InvalidCount))
        for count in (0, MOST):
            assert_errors_in_order(self, ticks_on_shelf, (PLAN, STATE, 5, 1, count), told)


class NthLeftTest(unittest.TestCase):
    def test_examples(self):
        self.assertEqual(nth_left(PLAN, STATE, 1, 1, 3), 12)
        self.assertIsNone(nth_left(PLAN, STATE, 2, 0, 1))

    def test_limits_of_numbers(self):
        self.assertEqual(nth_left(PLAN, STATE, 1, 0, 1), 1)
        self.assertEqual(nth_left(PLAN, STATE, 1, 0, 2), 9)
        self.assertEqual(nth_left(PLAN, STATE, 1, 0, 3), 17)
        self.assertEqual(nth_left(PLAN, STATE, 1, 0, MOST), 8 * MOST - 7)
        self.assertEqual(nth_left(ALONE, (0, (9,), ((),)), 9, 0, MOST), MOST)
        self.assertIsNone(nth_left(PLAN, STATE, 2, 0, MOST))

    def test_who_is_never_carried_is_never_left(self):
        for number in (1, MOST):
            self.assertIsNone(nth_left(IDLE, initial_state(IDLE), 3, 0, number))
            self.assertIsNone(nth_left(IDLE, initial_state(IDLE), 1, 1, number))

    def test_errors_in_their_order(self):
        told = faults((3, [2, -1, HUGE, None, True], UnknownShelf), (4, WRONG_TIMES, InvalidCount))
        for number in (1, MOST):
            assert_errors_in_order(self, nth_left, (PLAN, STATE, 5, 1, number), told)
        with self.assertRaises(InvalidCount):
            nth_left(PLAN, STATE, 2, 0, 0)


class StampsTest(unittest.TestCase):
    def test_example(self):
        self.assertEqual(stamps(PLAN, STATE, 1, 4), [0, 1, 1, 0])

    def test_limits_of_counts(self):
        self.assertEqual(stamps(PLAN, STATE, 1, 0), [])
        self.assertEqual(stamps(PLAN, STATE, 1, 1), [0])
        self.assertEqual(stamps(PLAN, STATE, 1, 200), ([0, 1, 1] * 67)[:200])
        self.assertEqual(stamps(PLAN, STATE, 2, 200), [1] * 200)
        self.assertEqual(stamps(ALONE, (0, (9,), ((),)), 9, 199), [0] * 199)

    def test_a_parcel_that_is_never_left(self):
        for count in (0, 1, 200):
            self.assertEqual(stamps(IDLE, initial_state(IDLE), 1, count), [])
            self.assertEqual(stamps(NOTHING_MOVES, initial_state(NOTHING_MOVES), 2, count), [])
        plan = ((1, 1), ((0,),))
        self.assertEqual(stamps(plan, initial_state(plan), 3, 5), [])

    def test_errors_in_their_order(self):
        told = faults((3, [-1, 201, -MOST, MOST, HUGE, -HUGE, None, True], InvalidCount))
        for count in (0, 200):
            assert_errors_in_order(self, stamps, (PLAN, STATE, 5, count), told)

    def test_stamps_go_on_after_later_ticks(self):
        for plan in all_plans():
            state = scattered(plan, 6)
            for parcel in parcels_of(state)[:4]:
                for count in (1, 61, MOST):
                    before = sum(times_left(plan, state, parcel, at, count) for at in range(len(plan[0])))
                    later = stamps(plan, advance(plan, state, count), parcel, 30)
                    for index, shelf in enumerate(later):
                        if before + index + 1 <= MOST:
                            self.assertEqual(stamp_at(plan, state, parcel, before + index + 1), shelf)


class StampAtTest(unittest.TestCase):
    def test_example(self):
        self.assertEqual(stamp_at(PLAN, STATE, 1, 5), 1)
        self.assertEqual(stamps(PLAN, STATE, 1, 5)[4], 1)

    def test_limits_of_numbers(self):
        self.assertEqual([stamp_at(PLAN, STATE, 1, number) for number in (1, 2, 3, 4)], [0, 1, 1, 0])
        self.assertEqual(stamp_at(PLAN, STATE, 1, MOST), 0)
        self.assertEqual(stamp_at(PLAN, STATE, 1, MOST - 1), 1)
        self.assertEqual(stamp_at(PLAN, STATE, 1, MOST - 3), 0)

    def test_a_parcel_that_is_never_left(self):
        for number in (1, MOST):
            self.assertIsNone(stamp_at(IDLE, initial_state(IDLE), 1, number))
            self.assertIsNone(stamp_at(IDLE, initial_state(IDLE), 4, number))

    def test_errors_in_their_order(self):
        told = faults((3, WRONG_TIMES, InvalidCount))
        for number in (1, MOST):
            assert_errors_in_order(self, stamp_at, (PLAN, STATE, 5, number), told)
        with self.assertRaises(InvalidCount):
            stamp_at(IDLE, initial_state(IDLE), 1, 0)


class ArrivalTest(unittest.TestCase):
    def test_examples(self):
        self.assertEqual(arrival(PLAN, STATE, 1, ("carrier", 1)), 5)
        self.assertIsNone(arrival(PLAN, STATE, 2, ("carrier", 0)))

    def test_after_0_ticks(self):
        for plan in all_plans():
            state = scattered(plan, 1)
            for place, parcel in zip(places(plan), parcels_of(state)):
                self.assertEqual(arrival(plan, state, parcel, place), 0)

    def test_after_1_tick_and_just_before_the_end_of_a_journey(self):
        self.assertEqual(arrival(PLAN, STATE, 1, ("shelf", 0, 0)), 1)
        for plan in periodic_plans():
            state = scattered(plan, 2)
            for parcel in parcels_of(state)[:6]:
                back = return_time(plan, state, parcel)
                place = History(plan, state, back - 1).where[-1][parcel]
                told = arrival(plan, state, parcel, place)
                self.assertLessEqual(told, back - 1)

    def test_errors_in_their_order(self):
        wrong = [("shelf", 0, 1), ("shelf", 2, 0), ("carrier", 2), ("carrier", -1), ("carrier",), (), None]
        told = faults((3, wrong, UnknownPlace))
        assert_errors_in_order(self, arrival, (PLAN, STATE, 5, ("shelf", 1, 1)), told)


class RepeatedCallsTest(unittest.TestCase):
    CALLS = [
        (times_left, (1, 1, 8)), (ticks_carried, (1, 0, 8)), (ticks_on_shelf, (1, 0, 8)),
        (nth_left, (1, 1, 3)), (stamps, (1, 4)), (stamp_at, (1, 5)), (arrival, (1, ("carrier", 1))),
    ]

    def test_equal_arguments_return_equal_results_also_after_errors(self):
        for function, values in self.CALLS:
            plan = ((1, 2), ((0, 1), (1,)))
            state = (0, (1, 2), ((3,), (4, 5)))
            first = function(plan, state, *values)
            with self.assertRaises(UnknownParcel):
                function(plan, state, 6, *values[1:])
            self.assertEqual(function(plan, state, *values), first)
            self.assertEqual((plan, state), (PLAN, STATE))

    def test_a_returned_list_may_be_modified(self):
        for parcel, told in ((1, [0, 1, 1, 0]), (2, [1, 1, 1, 1])):
            first = stamps(PLAN, STATE, parcel, 4)
            first.reverse()
            first.append(None)
            self.assertEqual(stamps(PLAN, STATE, parcel, 4), told)
        stamps(IDLE, initial_state(IDLE), 1, 4).append(None)
        self.assertEqual(stamps(IDLE, initial_state(IDLE), 1, 4), [])


class BusyPlanTest(unittest.TestCase):
    def test_single_ticks_of_one_whole_journey(self):
        """Compare all counts up to a return time, for one parcel on a busy plan."""
        state = initial_state(BUSY)
        parcel = 3
        back = return_time(BUSY, state, parcel)
        history = History(BUSY, state, back)
        found = history.stamps(parcel)
        for count in range(0, back + 1, 7):
            for shelf in range(4):
                told = len([tick for tick, left in found if tick <= count and left == shelf])
                self.assertEqual(times_left(BUSY, state, parcel, shelf, count), told)
                on_it = [tick for tick in range(1, count + 1) if history.shelf(parcel, tick) == shelf]
                self.assertEqual(ticks_on_shelf(BUSY, state, parcel, shelf, count), len(on_it))


if __name__ == "__main__":
    unittest.main()
