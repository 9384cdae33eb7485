"""Tests of editing: point 16."""

import unittest

from samples import (
    ALONE, BUSY, FAULTS_OF_PLAN_AND_STATE, IDLE, PLAN, STATE, WRONG_PLAN,
    all_plans, assert_errors_in_order, parcels_of, scattered, unknown_parcels,
)
from swapshelves.editing import put_in, reroute, take_out
from swapshelves.errors import (
    InvalidParcels, InvalidPlan, ParcelCarried, ShelfFull, UnknownCarrier, UnknownParcel, UnknownShelf,
)
from swapshelves.movement import advance
from swapshelves.plans import places

HUGE = 10 ** 5000
FULL = ((9, 2), ((0, 1),))
FULL_STATE = (5, (1,), ((2, 3, 4, 5, 6, 7, 8, 9, 10), (11, 12)))
WRONG_SHELVES = (-1, 2, HUGE, -HUGE, None, True)
WRONG_PARCELS = (0, -1, 1000, HUGE, -HUGE, None, True, 1, 3, 5)
WRONG_ROUTES = ((), (2,), (-1,), (0,) * 7, [0, 1], None, (0, True), (0, "1"), (HUGE,))


def free_parcels(state):
    """Return the list of all parcels that a state does not have."""
    return [parcel for parcel in range(1, 1000) if parcel not in parcels_of(state)]


class PutInTest(unittest.TestCase):
    def test_example(self):
        told = put_in(PLAN, STATE, 0, 9)
        self.assertEqual(told, (((2, 2), ((0, 1), (1,))), (0, (1, 2), ((3, 9), (4, 5)))))

    def test_the_parcel_is_behind_all_others(self):
        for plan in all_plans():
            state = scattered(plan, -8)
            for shelf, size in enumerate(plan[0]):
                parcel = free_parcels(state)[shelf]
                if size == 9:
                    with self.assertRaises(ShelfFull):
                        put_in(plan, state, shelf, parcel)
                    continue
                later, filled = put_in(plan, state, shelf, parcel)
                sizes = plan[0][:shelf] + (size + 1,) + plan[0][shelf + 1:]
                self.assertEqual(later, (sizes, plan[1]))
                self.assertEqual(filled[:2], state[:2])
                self.assertEqual(filled[2][shelf], state[2][shelf] + (parcel,))
                self.assertEqual(filled[2][:shelf] + filled[2][shelf + 1:], state[2][:shelf] + state[2][shelf + 1:])
                self.assertIn(("shelf", shelf, size), places(later))

    def test_put_in_and_taken_out_without_a_trace(self):
        for plan in all_plans():
            state = scattered(plan, 4)
            for shelf, size in enumerate(plan[0]):
                if size < 9:
                    parcel = free_parcels(state)[-1 - shelf]
                    self.assertEqual(take_out(*put_in(plan, state, shelf, parcel), parcel), (plan, state))

    def test_a_shelf_takes_nine_parcels(self):
        plan, state = ALONE, (0, (1,), ((),))
        for parcel in range(2, 11):
            plan, state = put_in(plan, state, 0, parcel)
        self.assertEqual((plan, state), (((9,), ((0,),)), (0, (1,), (tuple(range(2, 11)),))))
        with self.assertRaises(ShelfFull):
            put_in(plan, state, 0, 11)

    def test_limits_of_parcels(self):
        state = (0, (2, 3), ((4,), (5, 6)))
        for parcel in (1, 999):
            self.assertEqual(put_in(PLAN, state, 1, parcel)[1], (0, (2, 3), ((4,), (5, 6, parcel))))
        for parcel in (0, 1000, -1, 2, 3, 4, 5, 6):
            with self.assertRaises(InvalidParcels):
                put_in(PLAN, state, 1, parcel)

    def test_what_is_returned_goes_on_by_the_ticks(self):
        plan, state = put_in(PLAN, STATE, 0, 9)
        self.assertEqual(advance(plan, state, 1), (1, (3, 4), ((9, 1), (5, 2))))
        self.assertEqual(advance(plan, advance(plan, state, 10 ** 18), -10 ** 18), state)

    def test_errors_in_their_order(self):
        faults = FAULTS_OF_PLAN_AND_STATE + [(2, shelf, UnknownShelf) for shelf in WRONG_SHELVES]
        faults = faults + [(3, parcel, InvalidParcels) for parcel in WRONG_PARCELS]
        assert_errors_in_order(self, put_in, (PLAN, STATE, 1, 6), faults)

    def test_a_full_shelf_comes_before_a_wrong_parcel_and_behind_the_rest(self):
        for parcel in (100,) + WRONG_PARCELS:
            with self.assertRaises(ShelfFull):
                put_in(FULL, FULL_STATE, 0, parcel)
        for shelf in WRONG_SHELVES:
            with self.assertRaises(UnknownShelf):
                put_in(FULL, FULL_STATE, shelf, 1)
        self.assertEqual(put_in(FULL, FULL_STATE, 1, 100)[1][2][1], (11, 12, 100))


class TakeOutTest(unittest.TestCase):
    def test_examples(self):
        told = take_out(PLAN, STATE, 5)
        self.assertEqual(told, (((1, 1), ((0, 1), (1,))), (0, (1, 2), ((3,), (4,)))))
        with self.assertRaises(ParcelCarried):
            take_out(PLAN, STATE, 1)

    def test_all_parcels(self):
        for plan in all_plans():
            state = scattered(plan, 0)
            for place, parcel in zip(places(plan), parcels_of(state)):
                if place[0] == "carrier":
                    with self.assertRaises(ParcelCarried):
                        take_out(plan, state, parcel)
                    continue
                later, rest = take_out(plan, state, parcel)
                self.assertEqual(later[1], plan[1])
                self.assertEqual(sum(later[0]), sum(plan[0]) - 1)
                self.assertEqual(rest[:2], state[:2])
                self.assertEqual(later[0], tuple(len(shelf) for shelf in rest[2]))
                told = [other for other in parcels_of(state) if other != parcel]
                self.assertEqual(parcels_of(rest), told)

    def test_until_nothing_is_left(self):
        plan, state = PLAN, STATE
        for parcel in (4, 3, 5):
            plan, state = take_out(plan, state, parcel)
        self.assertEqual((plan, state), (((0, 0), ((0, 1), (1,))), (0, (1, 2), ((), ()))))

    def test_errors_in_their_order(self):
        faults = FAULTS_OF_PLAN_AND_STATE + unknown_parcels(2)
        assert_errors_in_order(self, take_out, (PLAN, STATE, 5), faults)
        faults = FAULTS_OF_PLAN_AND_STATE + [(2, 1, ParcelCarried), (2, 2, ParcelCarried)]
        assert_errors_in_order(self, take_out, (PLAN, STATE, 5), faults)
        with self.assertRaises(UnknownParcel):
            take_out(ALONE, (0, (7,), ((),)), 1)


class RerouteTest(unittest.TestCase):
    def test_example(self):
        self.assertEqual(reroute(PLAN, 1, (0, None)), ((1, 2), ((0, 1), (0, None))))

    def test_all_carriers(self):
        for plan in all_plans():
            for carrier in range(len(plan[1])):
                for route in ((0,), (None,), (0, None, 0, 0, None, 0)):
                    sizes, routes = reroute(plan, carrier, route)
                    self.assertEqual(sizes, plan[0])
                    self.assertEqual(routes, plan[1][:carrier] + (route,) + plan[1][carrier + 1:])

    def test_the_same_route_again(self):
        self.assertEqual(reroute(BUSY, 2, BUSY[1][2]), BUSY)

    def test_routes_that_are_invalid_for_the_plan(self):
        for carrier in (0, 1):
            for route in WRONG_ROUTES:
                with self.assertRaises(InvalidPlan) as caught:
                    reroute(PLAN, carrier, route)
                self.assertEqual((caught.exception.part, caught.exception.index), ("routes", carrier))
        self.assertEqual(reroute(IDLE, 1, (1,)), ((2, 0), ((None,), (1,))))

    def test_errors_in_their_order(self):
        faults = [(0, WRONG_PLAN, InvalidPlan)] + [(1, carrier, UnknownCarrier) for carrier in WRONG_SHELVES]
        faults = faults + [(2, route, InvalidPlan) for route in WRONG_ROUTES]
        assert_errors_in_order(self, reroute, (PLAN, 1, (0, None)), faults)
        with self.assertRaises(InvalidPlan) as caught:
            reroute(WRONG_PLAN, 2, ())
        self.assertEqual((caught.exception.part, caught.exception.index), ("sizes", 1))


if __name__ == "__main__":
    unittest.main()
