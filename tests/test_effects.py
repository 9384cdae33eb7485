"""Tests of effects: point 6."""

import unittest
from random import Random

from samples import ALONE, BUSY, IDLE, NOTHING_MOVES, PLAN, all_plans, slow_effect
from swapshelves.effects import compose, cycles, effect_of, invert, order, repeat
from swapshelves.errors import DifferentSizes, InvalidCount, InvalidEffect, InvalidPlan
from swapshelves.plans import pattern_length, places

MOST = 10 ** 18

NO_EFFECTS = (
    (0, 0), (1, 1), (0, 2, 2), (0, 1, 1),
    (1,), (0, 2), (1, 2, 3), (0, 1, 10 ** 5000),
    (-1,), (0, -1), (1, 0, -1), (-2, -1), (-10 ** 5000, 0),
    [], [0], [1, 0], range(2), "01", "", None, 0, {0: 0},
    (None,), (0, "1"), ((0,),), ([0],), (0, True), (False,),
)


def random_effect(source, length):
    """Return an effect of a length."""
    numbers = list(range(length))
    source.shuffle(numbers)
    return tuple(numbers)


def some_effects():
    """Return a list of effects of many lengths."""
    source = Random(6)
    found = [(), (0,), (0, 1), (1, 0), (2, 0, 1), (2, 1, 3, 4, 0)]
    for length in list(range(1, 20)) + [114]:
        found.append(random_effect(source, length))
    return found


def moved_by_hand(effect, count):
    """Return the effect that happens 0 or more times, step by step."""
    found = list(range(len(effect)))
    for _ in range(count):
        found = [effect[place] for place in found]
    return tuple(found)


class InvalidEffectTest(unittest.TestCase):
    def test_what_is_no_effect(self):
        for effect in NO_EFFECTS:
            for call in (invert, cycles, order):
                with self.assertRaises(InvalidEffect):
                    call(effect)
            with self.assertRaises(InvalidEffect):
                repeat(effect, 1)
            with self.assertRaises(InvalidEffect):
                compose(effect, (0,))
            with self.assertRaises(InvalidEffect):
                compose((0,), effect)

    def test_the_empty_tuple_has_each_number_below_its_length_once(self):
        self.assertEqual(invert(()), ())
        self.assertEqual(compose((), ()), ())
        self.assertEqual(repeat((), -5), ())
        self.assertEqual(cycles(()), [])
        self.assertEqual(order(()), 1)


class ComposeTest(unittest.TestCase):
    def test_examples(self):
        self.assertEqual(compose((1, 0, 2), (0, 2, 1)), (2, 0, 1))
        with self.assertRaises(InvalidEffect):
            compose((1, 0, 2), (0, 2, 2))

    def test_the_first_effect_happens_first(self):
        self.assertEqual(compose((0, 2, 1), (1, 0, 2)), (1, 2, 0))
        self.assertEqual(compose((0,), (0,)), (0,))

    def test_effects_of_many_places(self):
        source = Random(1)
        for length in (1, 2, 5, 114):
            one = random_effect(source, length)
            other = random_effect(source, length)
            told = compose(one, other)
            self.assertEqual(told, tuple(other[one[place]] for place in range(length)))

    def test_different_lengths(self):
        for one, other in (((0,), (0, 1)), ((0, 1, 2), (0, 1)), ((), (0,)), ((0,), ())):
            with self.assertRaises(DifferentSizes):
                compose(one, other)

    def test_order_of_the_errors(self):
        for one, other in (((0, 0), (0,)), ((0,), (0, 0)), ((1,), (0, 1)), ((), [0])):
            with self.assertRaises(InvalidEffect):
                compose(one, other)


class InvertTest(unittest.TestCase):
    def test_example(self):
        self.assertEqual(invert((2, 0, 1)), (1, 2, 0))

    def test_it_undoes_an_effect(self):
        for effect in some_effects():
            same = tuple(range(len(effect)))
            self.assertEqual(compose(effect, invert(effect)), same)
            self.assertEqual(compose(invert(effect), effect), same)
            self.assertEqual(invert(invert(effect)), effect)


class RepeatTest(unittest.TestCase):
    def test_example(self):
        self.assertEqual(repeat((1, 2, 0), -1), (2, 0, 1))

    def test_small_counts(self):
        for effect in some_effects():
            for count in range(8):
                self.assertEqual(repeat(effect, count), moved_by_hand(effect, count))
                self.assertEqual(repeat(effect, -count), moved_by_hand(invert(effect), count))

    def test_far_counts(self):
        for effect in some_effects():
            for count in (MOST, MOST - 1, -MOST, 1 - MOST):
                few = count % order(effect)
                if few < 2000:
                    self.assertEqual(repeat(effect, count), moved_by_hand(effect, few))
            self.assertEqual(compose(repeat(effect, MOST), repeat(effect, -MOST)), repeat(effect, 0))
        self.assertEqual(repeat((1, 2, 0), MOST), (1, 2, 0))
        self.assertEqual(repeat((1, 2, 0), -MOST), (2, 0, 1))

    def test_limits_of_counts(self):
        for count in (MOST + 1, -MOST - 1, 10 ** 5000, -10 ** 5000, None, True):
            with self.assertRaises(InvalidCount):
                repeat((1, 0), count)

    def test_the_effect_is_checked_first(self):
        with self.assertRaises(InvalidEffect):
            repeat((1, 1), MOST + 1)


class CyclesTest(unittest.TestCase):
    def test_example(self):
        self.assertEqual(cycles((2, 1, 3, 4, 0)), [(0, 2, 3, 4), (1,)])

    def test_small_effects(self):
        self.assertEqual(cycles((0,)), [(0,)])
        self.assertEqual(cycles((0, 1, 2)), [(0,), (1,), (2,)])
        self.assertEqual(cycles((2, 0, 1)), [(0, 2, 1)])
        self.assertEqual(cycles((0, 4, 3, 2, 1)), [(0,), (1, 4), (2, 3)])

    def test_each_place_is_followed_by_where_its_parcel_moves(self):
        for effect in some_effects():
            told = cycles(effect)
            for cycle in told:
                self.assertIs(type(cycle), tuple)
                self.assertEqual(cycle[0], min(cycle))
                for place, target in zip(cycle, cycle[1:] + cycle[:1]):
                    self.assertEqual(effect[place], target)
            self.assertEqual(told, sorted(told))
            flat = sorted(place for cycle in told for place in cycle)
            self.assertEqual(flat, list(range(len(effect))))


class OrderTest(unittest.TestCase):
    def test_example(self):
        self.assertEqual(order((2, 1, 3, 4, 0)), 4)

    def test_small_effects(self):
        self.assertEqual(order((0,)), 1)
        self.assertEqual(order((0, 1, 2)), 1)
        self.assertEqual(order((1, 0)), 2)
        self.assertEqual(order((1, 0, 3, 4, 2)), 6)
        self.assertEqual(order((1, 0, 3, 2)), 2)

    def test_it_is_the_smallest_number(self):
        for effect in some_effects()[:18]:
            times = 1
            while moved_by_hand(effect, times) != tuple(range(len(effect))):
                times += 1
            self.assertEqual(order(effect), times)

    def test_a_large_order(self):
        effect = []
        for length in (2, 3, 5, 7, 11, 13, 17, 19, 23):
            first = len(effect)
            effect.extend([first + (at + 1) % length for at in range(length)])
        self.assertEqual(order(tuple(effect)), 223092870)


class EffectOfTest(unittest.TestCase):
    def test_example(self):
        self.assertEqual(effect_of(PLAN, 0, 2), (2, 1, 3, 4, 0))

    def test_zero_ticks_move_nothing(self):
        for plan in all_plans():
            self.assertEqual(effect_of(plan, 3, 0), tuple(range(len(places(plan)))))

    def test_counts_from_0_on_are_as_single_ticks(self):
        for plan in all_plans():
            for time in (-61, -1, 0, 1, 7, 10 ** 30):
                for count in (0, 1, 2, 3, 59, 60, 61, 130):
                    self.assertEqual(effect_of(plan, time, count), slow_effect(plan, time, count))

    def test_negative_counts_undo_single_ticks(self):
        for plan in all_plans():
            for time in (-61, -1, 0, 1, 7, 10 ** 30):
                for count in (1, 2, 3, 59, 60, 61, 130):
                    undone = invert(slow_effect(plan, time - count, count))
                    self.assertEqual(effect_of(plan, time, -count), undone)

    def test_far_counts(self):
        for plan in all_plans():
            length = pattern_length(plan)
            for time in (-5, 0, 3):
                whole = slow_effect(plan, time, length)
                for count in (MOST, MOST - 1, MOST - 59, -MOST, 7 - MOST):
                    rounds, rest = divmod(count, length)
                    told = compose(repeat(whole, rounds), slow_effect(plan, time, rest))
                    self.assertEqual(effect_of(plan, time, count), told)

    def test_far_counts_of_a_known_plan(self):
        self.assertEqual(effect_of(PLAN, 0, 8 * 10 ** 17), (0, 1, 2, 3, 4))
        self.assertEqual(effect_of(PLAN, 0, 8 * 10 ** 17 + 2), (2, 1, 3, 4, 0))
        self.assertEqual(effect_of(PLAN, 2, -2 - 8 * 10 ** 17), invert((2, 1, 3, 4, 0)))

    def test_counts_add_up(self):
        for plan in all_plans():
            for one, other in ((5, 9), (MOST, -MOST), (MOST - 3, 3), (-4, 11), (-MOST, MOST - 1)):
                first = effect_of(plan, 2, one)
                told = compose(first, effect_of(plan, 2 + one, other))
                self.assertEqual(told, effect_of(plan, 2, one + other))

    def test_any_time(self):
        for time in (10 ** 100, -10 ** 100, 10 ** 5000):
            for shift in range(3):
                far = effect_of(BUSY, 60 * time + shift, 4)
                self.assertEqual(far, effect_of(BUSY, shift, 4))

    def test_plans_that_move_nothing(self):
        for plan in (IDLE, ALONE, NOTHING_MOVES):
            for count in (1, 5, MOST, -MOST):
                self.assertEqual(effect_of(plan, 1, count), tuple(range(len(places(plan)))))

    def test_limits_of_counts(self):
        effect_of(PLAN, 0, MOST)
        effect_of(PLAN, 0, -MOST)
        for count in (MOST + 1, -MOST - 1, 10 ** 5000, -10 ** 5000):
            with self.assertRaises(InvalidCount):
                effect_of(PLAN, 0, count)

    def test_the_plan_is_checked_first(self):
        with self.assertRaises(InvalidPlan):
            effect_of(((1,), ()), 0, MOST + 1)


class RepeatedCallsTest(unittest.TestCase):
    def test_a_returned_list_may_be_modified(self):
        told = cycles((2, 1, 3, 4, 0))
        told.reverse()
        told.append(None)
        self.assertEqual(cycles((2, 1, 3, 4, 0)), [(0, 2, 3, 4), (1,)])

    def test_arguments_are_unchanged_also_by_errors(self):
        effect = [2, 0, 1]
        for call in (invert, cycles, order):
            with self.assertRaises(InvalidEffect):
                call(effect)
        self.assertEqual(effect, [2, 0, 1])
        effect = (2, 0, 1)
        told = [(invert(effect), repeat(effect, 5), compose(effect, effect)) for _ in range(2)]
        self.assertEqual(told[0], told[1])
        self.assertEqual(effect, (2, 0, 1))


if __name__ == "__main__":
    unittest.main()
