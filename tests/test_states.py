"""Tests of states: points 3, 4 and 7."""

import unittest

from samples import ALONE, BUSY, IDLE, NOTHING_MOVES, PLAN, STATE, all_plans, fill, parcels_of, slow_tick
from swapshelves.counting import (
    arrival, nth_left, stamp_at, stamps, ticks_carried, ticks_on_shelf, times_left,
)
from swapshelves.effects import effect_of, invert
from swapshelves.errors import DifferentSizes, InvalidEffect, InvalidPlan, InvalidState
from swapshelves.families import families, first_meeting, follows_by, never_met, ticks_together
from swapshelves.movement import advance, locate, parcel_at, period, return_time
from swapshelves.plans import places, visits
from swapshelves.states import apply_effect, initial_state, tick

SAME = (0, 1, 2, 3, 4)
FAR = 10 ** 40


class InitialStateTest(unittest.TestCase):
    def test_example(self):
        self.assertEqual(initial_state(PLAN), (0, (1, 2), ((3,), (4, 5))))

    def test_shelves_of_size_0(self):
        self.assertEqual(initial_state(ALONE), (0, (1,), ((),)))
        self.assertEqual(initial_state(NOTHING_MOVES), (0, (1, 2, 3), ((), (), ())))
        self.assertEqual(initial_state(((0, 2, 0, 1), ((0,),))), (0, (1,), ((), (2, 3), (), (4,))))

    def test_parcels_stand_in_the_order_of_the_places(self):
        for plan in all_plans():
            state = initial_state(plan)
            self.assertEqual(state[0], 0)
            self.assertEqual(parcels_of(state), list(range(1, len(places(plan)) + 1)))
            self.assertEqual([len(shelf) for shelf in state[2]], list(plan[0]))

    def test_invalid_plan(self):
        with self.assertRaises(InvalidPlan):
            initial_state(((), ((None,),)))


def calls(plan, state):
    """Return calls of all functions with a state, all behind it being wrong."""
    return [
        lambda: tick(plan, state),
        lambda: apply_effect(plan, state, None),
        lambda: advance(plan, state, FAR),
        lambda: locate(plan, state, 0, FAR),
        lambda: parcel_at(plan, state, (), FAR),
        lambda: return_time(plan, state, 0),
        lambda: period(plan, state),
        lambda: times_left(plan, state, 0, -1, FAR),
        lambda: ticks_carried(plan, state, 0, -1, FAR),
        lambda: ticks_on_shelf(plan, state, 0, -1, FAR),
        lambda: nth_left(plan, state, 0, -1, FAR),
        lambda: stamps(plan, state, 0, FAR),
        lambda: stamp_at(plan, state, 0, FAR),
        lambda: arrival(plan, state, 0, ()),
        lambda: follows_by(plan, state, 0, 0),
        lambda: families(plan, state),
        lambda: first_meeting(plan, state, 0, 0),
        lambda: ticks_together(plan, state, 0, 0, FAR),
        lambda: never_met(plan, state, 0),
    ]


class InvalidStateTest(unittest.TestCase):
    def assert_wrong(self, state, plan=PLAN):
        for call in calls(plan, state):
            with self.assertRaises(InvalidState):
                call()

    def assert_right(self, state, plan=PLAN):
        tick(plan, state)
        self.assertEqual(apply_effect(plan, state, SAME), state)

    def test_example(self):
        self.assert_wrong((0, (1, 2), ((3,), (4, 4))))

    def test_number_of_carried_parcels(self):
        self.assert_wrong((0, (), ((3,), (4, 5))))
        self.assert_wrong((0, (1,), ((3,), (4, 5))))
        self.assert_wrong((0, (1, 2, 6), ((3,), (4, 5))))

    def test_number_of_shelves(self):
        self.assert_wrong((0, (1, 2), ()))
        self.assert_wrong((0, (1, 2), ((3,),)))
        self.assert_wrong((0, (1, 2), ((3,), (4, 5), ())))
        self.assert_wrong((0, (1, 2), ((3,), (4, 5), (6,))))

    def test_number_of_parcels_on_a_shelf(self):
        self.assert_wrong((0, (1, 2), ((), (4, 5))))
        self.assert_wrong((0, (1, 2), ((3, 6), (4, 5))))
        self.assert_wrong((0, (1, 2), ((3,), (4,))))
        self.assert_wrong((0, (1, 2), ((3, 4), (5,))))
        self.assert_wrong((0, (1,), ((2,),)), ALONE)

    def test_limits_of_parcels(self):
        self.assert_right((0, (1, 999), ((2,), (998, 500))))
        for parcel in (0, -1, 1000, 10 ** 5000):
            self.assert_wrong((0, (parcel, 2), ((3,), (4, 5))))
            self.assert_wrong((0, (1, parcel), ((3,), (4, 5))))
            self.assert_wrong((0, (1, 2), ((parcel,), (4, 5))))
            self.assert_wrong((0, (1, 2), ((3,), (4, parcel))))

    def test_one_parcel_twice(self):
        self.assert_wrong((0, (1, 1), ((3,), (4, 5))))
        self.assert_wrong((0, (1, 2), ((2,), (4, 5))))
        self.assert_wrong((0, (1, 2), ((3,), (4, 3))))
        self.assert_wrong((0, (999, 2), ((3,), (4, 999))))

    def test_limits_of_the_time(self):
        for time in (-10 ** 30, -1, 0, 10 ** 30):
            self.assert_right((time, (1, 2), ((3,), (4, 5))))
        for time in (-10 ** 30 - 1, 10 ** 30 + 1, 10 ** 5000, -10 ** 5000):
            self.assert_wrong((time, (1, 2), ((3,), (4, 5))))

    def test_values_of_other_kinds_are_no_states(self):
        self.assert_wrong([0, (1, 2), ((3,), (4, 5))])
        self.assert_wrong((0, (1, 2)))
        self.assert_wrong((None, (1, 2), ((3,), (4, 5))))
        self.assert_wrong((0, [1, 2], ((3,), (4, 5))))
        self.assert_wrong((0, (1, 2), [(3,), (4, 5)]))
        self.assert_wrong((0, (1, 2), ((3,), [4, 5])))
        self.assert_wrong((0, (1, None), ((3,), (4, 5))))
        self.assert_wrong((0, (True, 2), ((3,), (4, 5))))

    def test_the_plan_is_checked_first(self):
        wrong = ((1, 2), ((0, 1), (2,)))
        with self.assertRaises(InvalidPlan) as caught:
            tick(wrong, (0, (1, 2), ((3,), (4, 4))))
        self.assertEqual((caught.exception.part, caught.exception.index), ("routes", 1))


class TickTest(unittest.TestCase):
    def test_example(self):
        told = tick(PLAN, STATE)
        self.assertEqual(told, ((1, (3, 4), ((1,), (5, 2))), [(0, 0, 1, 3), (1, 1, 2, 4)]))
        self.assertIs(type(told), tuple)
        self.assertIs(type(told[1]), list)

    def test_a_carrier_who_rests(self):
        plan = ((2,), ((None, 0), (0,)))
        state = (0, (1, 2), ((3, 4),))
        state, exchanges = tick(plan, state)
        self.assertEqual((state, exchanges), ((1, (1, 3), ((4, 2),)), [(1, 0, 2, 3)]))
        state, exchanges = tick(plan, state)
        self.assertEqual(state, (2, (4, 2), ((1, 3),)))
        self.assertEqual(exchanges, [(0, 0, 1, 4), (1, 0, 3, 2)])

    def test_all_carriers_rest(self):
        state = initial_state(IDLE)
        self.assertEqual(tick(IDLE, state), ((1,) + state[1:], []))

    def test_a_shelf_of_size_0(self):
        self.assertEqual(tick(ALONE, (5, (7,), ((),))), ((6, (7,), ((),)), [(0, 0, 7, 7)]))
        plan = ((0, 1), ((0,), (0,), (1,)))
        told = tick(plan, (0, (1, 2, 3), ((), (4,))))
        self.assertEqual(told[0], (1, (1, 2, 4), ((), (3,))))
        self.assertEqual(told[1], [(0, 0, 1, 1), (1, 0, 2, 2), (2, 1, 3, 4)])

    def test_two_carriers_at_one_shelf(self):
        plan = ((1,), ((0,), (0,)))
        told = tick(plan, (0, (1, 2), ((3,),)))
        self.assertEqual(told, ((1, (3, 1), ((2,),)), [(0, 0, 1, 3), (1, 0, 2, 1)]))
        plan = ((2,), ((0,), (0,), (0,)))
        told = tick(plan, (0, (1, 2, 3), ((4, 5),)))
        self.assertEqual(told[0], (1, (4, 5, 1), ((2, 3),)))
        self.assertEqual(told[1], [(0, 0, 1, 4), (1, 0, 2, 5), (2, 0, 3, 1)])

    def test_negative_times(self):
        plan = ((1, 1, 1), ((0, 1, 2),))
        told = [tick(plan, (time, (1,), ((2,), (3,), (4,)))) for time in (-3, -2, -1, 0)]
        self.assertEqual([state[0] for state, _ in told], [-2, -1, 0, 1])
        self.assertEqual([exchanges[0][1] for _, exchanges in told], [0, 1, 2, 0])
        self.assertEqual(told[2][0], (0, (4,), ((2,), (3,), (1,))))

    def test_far_times(self):
        for time in (10 ** 30, -10 ** 30):
            state, exchanges = tick(PLAN, (time, (1, 2), ((3,), (4, 5))))
            self.assertEqual(state, (time + 1, (3, 4), ((1,), (5, 2))))
            self.assertEqual(exchanges, [(0, 0, 1, 3), (1, 1, 2, 4)])

    def test_many_ticks_are_as_the_slow_model_has_them(self):
        for plan in all_plans():
            parcels = [999 - at for at in range(len(places(plan)))]
            state = slow = fill(plan, -30, parcels)
            for _ in range(65):
                state, exchanges = tick(plan, state)
                slow, told = slow_tick(plan, slow)
                self.assertEqual((state, exchanges), (slow, told))
                pairs = [(carrier, shelf) for carrier, shelf, _, _ in exchanges]
                self.assertEqual(pairs, visits(plan, state[0]))


class ApplyEffectTest(unittest.TestCase):
    def test_examples(self):
        self.assertEqual(apply_effect(PLAN, STATE, (1, 0, 2, 3, 4)), (0, (2, 1), ((3,), (4, 5))))
        with self.assertRaises(DifferentSizes):
            apply_effect(PLAN, STATE, (1, 0))

    def test_parcels_move_to_the_numbers_in_the_effect(self):
        state = (-7, (10, 20), ((30,), (40, 50)))
        moved = apply_effect(PLAN, state, (2, 1, 3, 4, 0))
        self.assertEqual(moved, (-7, (50, 20), ((10,), (30, 40))))
        self.assertEqual(apply_effect(PLAN, state, SAME), state)

    def test_the_effect_of_a_tick_does_what_a_tick_does(self):
        for plan in all_plans():
            state = (17,) + initial_state(plan)[1:]
            moved = apply_effect(plan, state, effect_of(plan, 17, 1))
            later = tick(plan, state)[0]
            self.assertEqual(moved, (17,) + later[1:])
            back = apply_effect(plan, later, effect_of(plan, 18, -1))
            self.assertEqual(back, (18,) + state[1:])
            self.assertEqual(apply_effect(plan, moved, invert(effect_of(plan, 17, 1))), state)

    def test_effects_of_another_length(self):
        for effect in ((), (0,), (0, 1, 2, 3), (0, 1, 2, 3, 4, 5)):
            with self.assertRaises(DifferentSizes):
                apply_effect(PLAN, STATE, effect)

    def test_what_is_no_effect(self):
        for effect in ((0, 1, 2, 3, 3), (0, 1, 2, 3, 5), (0, 1, 2, 3, -1), [0, 1, 2, 3, 4], None):
            with self.assertRaises(InvalidEffect):
                apply_effect(PLAN, STATE, effect)

    def test_order_of_the_errors(self):
        wrong_plan = ((1, 10), ((0, 1), (1,)))
        wrong_state = (0, (1, 2), ((3,), (4, 4)))
        with self.assertRaises(InvalidPlan):
            apply_effect(wrong_plan, wrong_state, (0, 0))
        with self.assertRaises(InvalidState):
            apply_effect(PLAN, wrong_state, (0, 0))
        with self.assertRaises(InvalidState):
            apply_effect(PLAN, wrong_state, (0, 1))
        with self.assertRaises(InvalidEffect):
            apply_effect(PLAN, STATE, (0, 0))
        with self.assertRaises(InvalidPlan):
            apply_effect(wrong_plan, STATE, SAME)


class RepeatedCallsTest(unittest.TestCase):
    def test_a_returned_list_may_be_modified(self):
        kept = tick(BUSY, initial_state(BUSY))
        state, exchanges = tick(BUSY, initial_state(BUSY))
        exchanges.reverse()
        exchanges.append(None)
        self.assertEqual(tick(BUSY, initial_state(BUSY)), kept)
        self.assertEqual(state, kept[0])

    def test_arguments_are_unchanged_also_by_errors(self):
        plan = ((1, 2), ((0, 1), (1,)))
        state = (0, (1, 2), ((3,), (4, 5)))
        effect = [1, 0, 2, 3, 4]
        tick(plan, state)
        apply_effect(plan, state, tuple(effect))
        with self.assertRaises(InvalidEffect):
            apply_effect(plan, state, effect)
        with self.assertRaises(DifferentSizes):
            apply_effect(plan, state, (1, 0))
        self.assertEqual((plan, state, effect), (PLAN, STATE, [1, 0, 2, 3, 4]))
        self.assertEqual(tick(plan, state), tick(PLAN, STATE))


if __name__ == "__main__":
    unittest.main()
