"""Tests of observers: points 12 and 13."""

import unittest

from samples import (
    ALONE, BUSY, HANDED_ON, IDLE, MOST, NOTHING_MOVES, PLAN, WRONG_PLAN,
    History, all_plans, assert_errors_in_order, parcels_of, periodic_plans, random_plan, scattered,
)
from swapshelves.errors import (
    Contradiction, InvalidCount, InvalidParcels, InvalidPlan, UnknownParcel, UnknownPlace, UnknownShelf,
)
from swapshelves.movement import locate, parcel_at, period
from swapshelves.observers import Observer, watched, watching_time
from swapshelves.plans import pattern_length, places

HUGE = 10 ** 5000
PARCELS = (1, 2, 3, 4, 5)
CARRIER = ("carrier", 0)
WRONG_COUNTS = [MOST + 1, -MOST - 1, 10 ** 30, HUGE, -HUGE, None, True]
WRONG_TICKS = [-1, -MOST, MOST + 1, HUGE, None, True]
WRONG_PLACES = [
    ("shelf", 0, 1), ("shelf", 1, 2), ("shelf", 2, 0), ("shelf", -1, 0), ("shelf", 0, -1), ("carrier", 2),
    ("carrier", -1), ("carrier",), (), None, ["carrier", 0], ("carrier", True), ("shelf", False, 0),
]
WRONG_PARCELS = [6, 0, -1, 999, 1000, HUGE, None, True]


def observer_of(plan=PLAN, time=0, parcels=PARCELS):
    """Return an observer who has seen nothing."""
    return Observer(plan, time, parcels)


def told_by(observer):
    """Return what an observer knows, in a form that can be compared."""
    now = [observer.what(place, 0) for place in places(PLAN)]
    there = [observer.where(parcel, 0) for parcel in PARCELS]
    return observer.known_places(), observer.records(), now, there


class NewObserverTest(unittest.TestCase):
    def assert_wrong(self, parcels, plan=PLAN):
        with self.assertRaises(InvalidParcels):
            Observer(plan, 0, parcels)

    def test_it_knows_nothing(self):
        self.assertEqual(told_by(observer_of()), ([], [], [None] * 5, [None] * 5))

    def test_limits_of_parcels(self):
        observer_of(parcels=(1, 2, 3, 4, 999))
        observer_of(parcels=(995, 996, 997, 998, 999))
        for wrong in (0, -1):
            self.assert_wrong((wrong, 2, 3, 4, 5))
        for wrong in (1000, HUGE):
            self.assert_wrong((1, 2, 3, 4, wrong))

    def test_too_many_or_too_few_parcels(self):
        self.assert_wrong(())
        self.assert_wrong((1, 2, 3, 4))
        self.assert_wrong((1, 2, 3, 4, 5, 6))
        self.assert_wrong((), ALONE)
        self.assert_wrong((1, 2), ALONE)

    def test_parcels_that_do_not_ascend(self):
        self.assert_wrong((2, 1, 3, 4, 5))
        self.assert_wrong((1, 2, 3, 5, 4))
        self.assert_wrong((5, 4, 3, 2, 1))
        self.assert_wrong((1, 1, 2, 3, 4))
        self.assert_wrong((1, 2, 3, 4, 4))

    def test_what_is_no_tuple_of_integers(self):
        self.assert_wrong([1, 2, 3, 4, 5])
        self.assert_wrong("12345")
        self.assert_wrong(None)
        self.assert_wrong(5)
        self.assert_wrong((1, 2, 3, 4, None))
        self.assert_wrong((1, 2, 3, 4, "5"))
        self.assert_wrong((True, 2, 3, 4, 5))

    def test_the_plan_is_checked_first(self):
        for parcels in (PARCELS, (), (0,)):
            with self.assertRaises(InvalidPlan) as caught:
                Observer(WRONG_PLAN, 0, parcels)
            self.assertEqual((caught.exception.part, caught.exception.index), ("sizes", 1))

    def test_any_time(self):
        for time in (10 ** 40, -10 ** 40, HUGE, -HUGE):
            observer = observer_of(time=time)
            self.assertEqual(observer.see(CARRIER, 2, 5), 1)
            self.assertEqual(observer.known_places(), [(("shelf", 1, 1), 5)])


class SeeTest(unittest.TestCase):
    def test_examples(self):
        observer = observer_of()
        self.assertEqual(observer.see(CARRIER, 2, 5), 1)
        with self.assertRaises(Contradiction):
            observer.see(("shelf", 1, 1), 0, 4)

    def test_new_observations(self):
        observer = observer_of()
        self.assertEqual(observer.see(("shelf", 1, 1), 0, 5), 1)
        self.assertEqual(observer.see(("shelf", 0, 0), 0, 2), 2)
        self.assertEqual(observer.see(CARRIER, 0, 4), 3)
        told = [(CARRIER, 4), (("shelf", 0, 0), 2), (("shelf", 1, 1), 5)]
        self.assertEqual(observer.known_places(), told)

    def test_the_last_place_becomes_known_by_itself(self):
        observer = observer_of()
        for number, place in enumerate(places(PLAN)[:3]):
            self.assertEqual(observer.see(place, 0, number + 2), number + 1)
        self.assertIsNone(observer.where(1, 0))
        self.assertIsNone(observer.where(5, 0))
        self.assertEqual(observer.see(("shelf", 1, 1), 0, 1), 5)
        self.assertEqual(observer.where(5, 0), ("shelf", 1, 0))
        self.assertEqual(observer.what(("shelf", 1, 0), 0), 5)
        self.assertEqual(observer.known_places(), list(zip(places(PLAN), (2, 3, 4, 5, 1))))
        self.assertEqual(len(observer.records()), 4)
        self.assertEqual(observer.see(("shelf", 1, 0), 0, 5), 5)
        with self.assertRaises(Contradiction):
            observer.see(("shelf", 1, 0), 0, 1)

    def test_two_places(self):
        plan = ((1,), ((0, None),))
        observer = Observer(plan, 0, (40, 70))
        self.assertEqual(observer.known_places(), [])
        self.assertEqual(observer.see(("carrier", 0), 1, 70), 2)
        self.assertEqual(observer.known_places(), [(("carrier", 0), 40), (("shelf", 0, 0), 70)])

    def test_a_plan_with_one_place(self):
        observer = Observer(ALONE, 3, (77,))
        self.assertEqual(observer.known_places(), [(CARRIER, 77)])
        self.assertEqual(observer.where(77, -MOST), CARRIER)
        self.assertEqual(observer.what(CARRIER, MOST), 77)
        self.assertEqual(observer.records(), [])
        self.assertEqual(observer.see(CARRIER, 5, 77), 1)
        self.assertEqual(observer.records(), [(CARRIER, 5, 77)])
        for parcel in (76, 78, 1):
            with self.assertRaises(UnknownParcel):
                observer.see(CARRIER, 0, parcel)

    def test_observations_that_tell_nothing_new(self):
        observer = observer_of()
        for place, count in ((CARRIER, 2), (CARRIER, 2), (("shelf", 1, 1), 0), (("shelf", 0, 0), 3)):
            self.assertEqual(observer.see(place, count, 5), 1)
        self.assertEqual(observer.known_places(), [(("shelf", 1, 1), 5)])
        told = [(CARRIER, 2, 5), (CARRIER, 2, 5), (("shelf", 1, 1), 0, 5), (("shelf", 0, 0), 3, 5)]
        self.assertEqual(observer.records(), told)

    def test_contradictions_by_the_place_and_by_the_parcel(self):
        observer = observer_of()
        observer.see(CARRIER, 2, 5)
        before = told_by(observer)
        for place, count, parcel in (
            (CARRIER, 2, 4), (("shelf", 1, 1), 0, 1), (("shelf", 0, 0), 3, 2),
            (CARRIER, 0, 5), (("shelf", 1, 0), 0, 5), (CARRIER, 3, 5), (CARRIER, -1, 5),
        ):
            with self.assertRaises(Contradiction):
                observer.see(place, count, parcel)
            self.assertEqual(told_by(observer), before)

    def test_contradiction_by_both(self):
        observer = observer_of()
        observer.see(CARRIER, 0, 1)
        observer.see(("carrier", 1), 0, 2)
        with self.assertRaises(Contradiction):
            observer.see(CARRIER, 0, 2)
        with self.assertRaises(Contradiction):
            observer.see(("carrier", 1), 8 * 10 ** 17, 1)
        self.assertEqual(observer.see(CARRIER, 8 * 10 ** 17, 1), 2)

    def test_whoever_sees_what_is_true_finds_no_contradiction(self):
        counts = (0, 1, -1, 2, 59, -60, 1234, MOST, -MOST, MOST - 1, 1 - MOST)
        for plan in all_plans():
            state = scattered(plan, -11)
            parcels = parcels_of(state)
            observer = Observer(plan, -11, tuple(sorted(parcels)))
            seen = {}
            for index, parcel in enumerate(parcels):
                count = counts[index % len(counts)]
                place = locate(plan, state, parcel, count)
                seen[parcel] = True
                many = len(parcels) if len(seen) >= len(parcels) - 1 else len(seen)
                self.assertEqual(observer.see(place, count, parcel), many)
            self.assertEqual(observer.known_places(), list(zip(places(plan), parcels)))
            for count in (0, 5, -MOST, MOST):
                for place, parcel in zip(places(plan), parcels):
                    self.assertEqual(observer.where(parcel, count), locate(plan, state, parcel, count))
                    self.assertEqual(observer.what(place, count), parcel_at(plan, state, place, count))

    def test_nothing_is_changed_by_an_error(self):
        observer = observer_of()
        observer.see(CARRIER, 2, 5)
        before = told_by(observer)
        for place, count, parcel, error in (
            (("shelf", 0, 1), 0, 1, UnknownPlace), (CARRIER, MOST + 1, 1, InvalidCount),
            (CARRIER, 0, 6, UnknownParcel), (CARRIER, 2, 1, Contradiction),
        ):
            with self.assertRaises(error):
                observer.see(place, count, parcel)
            self.assertEqual(told_by(observer), before)
        for call in (lambda: observer.where(6, 0), lambda: observer.what(("carrier", 2), 0)):
            with self.assertRaises((UnknownParcel, UnknownPlace)):
                call()
            self.assertEqual(told_by(observer), before)
        self.assertEqual(observer.see(CARRIER, 0, 1), 2)

    def test_errors_in_their_order(self):
        observer = observer_of()
        observer.see(CARRIER, 2, 5)
        faults = [(0, wrong, UnknownPlace) for wrong in WRONG_PLACES]
        faults += [(1, wrong, InvalidCount) for wrong in WRONG_COUNTS]
        faults += [(2, wrong, UnknownParcel) for wrong in WRONG_PARCELS]
        faults += [(2, 4, Contradiction)]
        assert_errors_in_order(self, observer.see, (CARRIER, 2, 5), faults)
        for count in (MOST, -MOST):
            place = observer.where(5, count)
            assert_errors_in_order(self, observer.see, (place, count, 5), faults)


class WhereAndWhatTest(unittest.TestCase):
    def test_examples(self):
        observer = observer_of()
        observer.see(CARRIER, 2, 5)
        self.assertEqual(observer.known_places(), [(("shelf", 1, 1), 5)])
        self.assertEqual(observer.where(5, 4), ("shelf", 0, 0))
        self.assertEqual(observer.what(("shelf", 0, 0), 4), 5)

    def test_before_and_after(self):
        observer = observer_of()
        observer.see(("shelf", 1, 1), 0, 5)
        for count in (0, 1, 2, 7, -1, -2, MOST, -MOST):
            place = locate(PLAN, (0, (1, 2), ((3,), (4, 5))), 5, count)
            self.assertEqual(observer.where(5, count), place)
            self.assertEqual(observer.what(place, count), 5)

    def test_what_is_not_known(self):
        observer = observer_of()
        for count in (0, 3, MOST, -MOST):
            self.assertIsNone(observer.where(5, count))
            self.assertIsNone(observer.what(CARRIER, count))
        observer.see(CARRIER, 2, 5)
        for parcel in (1, 2, 3, 4):
            self.assertIsNone(observer.where(parcel, 2))
        told = [observer.what(place, 2) for place in places(PLAN)]
        self.assertEqual(told, [5, None, None, None, None])

    def test_errors_of_where_in_their_order(self):
        observer = observer_of()
        faults = [(0, wrong, UnknownParcel) for wrong in WRONG_PARCELS]
        faults += [(1, wrong, InvalidCount) for wrong in WRONG_COUNTS]
        assert_errors_in_order(self, observer.where, (5, MOST), faults)
        observer.see(CARRIER, 2, 5)
        assert_errors_in_order(self, observer.where, (5, -MOST), faults)

    def test_errors_of_what_in_their_order(self):
        observer = observer_of()
        faults = [(0, wrong, UnknownPlace) for wrong in WRONG_PLACES]
        faults += [(1, wrong, InvalidCount) for wrong in WRONG_COUNTS]
        assert_errors_in_order(self, observer.what, (CARRIER, MOST), faults)
        observer.see(CARRIER, 2, 5)
        assert_errors_in_order(self, observer.what, (CARRIER, -MOST), faults)


class RecordsTest(unittest.TestCase):
    def test_example(self):
        observer = observer_of()
        observer.see(CARRIER, 2, 5)
        self.assertEqual(observer.records(), [(CARRIER, 2, 5)])

    def test_they_stand_in_order(self):
        observer = observer_of()
        told = [(("shelf", 1, 1), 0, 5), (CARRIER, -8, 3), (("carrier", 1), 0, 2), (CARRIER, 0, 3)]
        for index, (place, count, parcel) in enumerate(told):
            observer.see(place, count, parcel)
            self.assertEqual(observer.records(), told[:index + 1])

    def test_returned_lists_may_be_modified(self):
        observer = observer_of()
        observer.see(CARRIER, 2, 5)
        before = told_by(observer)
        observer.records().clear()
        observer.records().append(None)
        observer.known_places().clear()
        self.assertEqual(told_by(observer), before)
        self.assertEqual(observer.see(CARRIER, 2, 5), 1)
        self.assertEqual(len(observer.records()), 2)

    def test_observers_do_not_share_what_they_know(self):
        parcels = (1, 2, 3, 4, 5)
        one = Observer(PLAN, 0, parcels)
        other = Observer(PLAN, 0, parcels)
        one.see(CARRIER, 0, 5)
        self.assertEqual((other.records(), other.known_places()), ([], []))
        self.assertEqual(other.see(CARRIER, 0, 1), 1)
        self.assertEqual(parcels, PARCELS)


class WatchedTest(unittest.TestCase):
    def test_example(self):
        self.assertEqual(watched(PLAN, 0, 0, 3), [0, 4])

    def test_no_ticks(self):
        for plan in all_plans():
            for shelf in range(len(plan[0])):
                self.assertEqual(watched(plan, 7, shelf, 0), [])

    def test_it_is_as_single_ticks_tell(self):
        for plan in periodic_plans():
            for time in (0, -7):
                self.assert_watched(plan, time)

    def assert_watched(self, plan, time):
        state = scattered(plan, time)
        whole = period(plan, state)
        parcels = parcels_of(state)
        history = History(plan, state, whole)
        for shelf in range(len(plan[0])):
            firsts = {}
            for tick, lefts in enumerate(history.lefts):
                for parcel, left in lefts:
                    if left == shelf:
                        firsts.setdefault(parcels.index(parcel), tick)
            last = max(list(firsts.values()) + [0])
            self.assertEqual(watching_time(plan, time, shelf), last)
            for count in sorted(set([0, 1, 2, 5, whole // 2, max(last - 1, 0), last, last + 1, whole])):
                told = sorted(place for place in firsts if firsts[place] <= count)
                self.assertEqual(watched(plan, time, shelf, count), told)
            self.assertEqual(watched(plan, time, shelf, MOST), sorted(firsts))

    def test_a_shelf_that_no_carrier_visits(self):
        for count in (0, 1, MOST):
            self.assertEqual(watched(IDLE, 0, 0, count), [])
            self.assertEqual(watched(((1, 1), ((0,),)), 0, 1, count), [])

    def test_a_shelf_of_size_0_sees_who_is_taken_back(self):
        self.assertEqual(watched(ALONE, 0, 0, 1), [0])
        self.assertEqual([watched(NOTHING_MOVES, 0, shelf, 1) for shelf in range(3)], [[0], [], [2]])
        self.assertEqual([watched(NOTHING_MOVES, 0, shelf, MOST) for shelf in range(3)], [[0, 2], [2], [0, 2]])

    def test_who_is_handed_on_in_one_tick_is_seen(self):
        plan = ((1,), ((0,), (0,)))
        self.assertEqual(watched(plan, 0, 0, 1), [0, 1])
        self.assertEqual(watched(HANDED_ON, 0, 0, 1)[:2], [0, 1])

    def test_any_time(self):
        for time in (60 * 10 ** 40, -60 * 10 ** 40, 60 * HUGE, -60 * HUGE):
            for shift in (0, 1, 7):
                for shelf in range(4):
                    told = watched(BUSY, shift, shelf, 9)
                    self.assertEqual(watched(BUSY, time + shift, shelf, 9), told)
                    self.assertEqual(watching_time(BUSY, time + shift, shelf), watching_time(BUSY, shift, shelf))
        self.assertEqual(watched(((1, 1), ((0, 1),)), 0, 0, 1), [0])
        self.assertEqual(watched(((1, 1), ((0, 1),)), -1, 0, 1), [])
        self.assertEqual(watched(((1, 1), ((0, 1),)), -1, 1, 1), [0])

    def test_errors_in_their_order(self):
        faults = [(0, WRONG_PLAN, InvalidPlan)]
        faults += [(2, wrong, UnknownShelf) for wrong in (2, -1, HUGE, None, True)]
        faults += [(3, wrong, InvalidCount) for wrong in WRONG_TICKS]
        for count in (0, MOST):
            assert_errors_in_order(self, watched, (PLAN, 0, 1, count), faults)


class WatchingTimeTest(unittest.TestCase):
    def test_example(self):
        self.assertEqual(watching_time(PLAN, 0, 0), 7)

    def test_shelves_that_no_carrier_visits(self):
        self.assertEqual(watching_time(IDLE, 0, 0), 0)
        self.assertEqual(watching_time(IDLE, 5, 1), 0)
        self.assertEqual(watching_time(((1, 1), ((0,),)), -3, 1), 0)

    def test_small_plans(self):
        self.assertEqual(watching_time(ALONE, 0, 0), 1)
        self.assertEqual(watching_time(((0,), ((None, 0),)), 0, 0), 2)
        self.assertEqual(watching_time(((9,), ((0,),)), 0, 0), 10)
        self.assertEqual(watching_time(((9,), ((0, None, None),)), 1, 0), 30)

    def test_after_it_nothing_new_is_seen(self):
        for seed in range(25):
            plan = random_plan(seed)
            for time in (0, -1, 100):
                for shelf in range(len(plan[0])):
                    ticks = watching_time(plan, time, shelf)
                    seen = watched(plan, time, shelf, ticks)
                    self.assertEqual(watched(plan, time, shelf, MOST), seen)
                    if ticks > 0:
                        self.assertNotEqual(watched(plan, time, shelf, ticks - 1), seen)

    def test_it_repeats_with_the_pattern(self):
        length = pattern_length(BUSY)
        for shelf in range(4):
            told = watching_time(BUSY, -13, shelf)
            self.assertEqual(watching_time(BUSY, -13 - 5 * length, shelf), told)

    def test_errors_in_their_order(self):
        faults = [(0, WRONG_PLAN, InvalidPlan)]
        faults += [(2, wrong, UnknownShelf) for wrong in (2, -1, HUGE, None, True)]
        assert_errors_in_order(self, watching_time, (PLAN, 0, 1), faults)


class RepeatedCallsTest(unittest.TestCase):
    def test_equal_arguments_return_equal_results_also_after_errors(self):
        plan = ((1, 2), ((0, 1), (1,)))
        first = watched(plan, 0, 0, 3)
        first.append(None)
        with self.assertRaises(UnknownShelf):
            watched(plan, 0, 2, 3)
        with self.assertRaises(InvalidCount):
            watched(plan, 0, 0, -1)
        self.assertEqual(watched(plan, 0, 0, 3), [0, 4])
        self.assertEqual([watching_time(plan, 0, 0) for _ in range(2)], [7, 7])
        self.assertEqual(plan, PLAN)


if __name__ == "__main__":
    unittest.main()
