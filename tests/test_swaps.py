"""Tests of swaps: points 14 and 15."""

import unittest
from collections import deque
from itertools import combinations, permutations
from random import Random

from samples import (
    ALONE, BUSY, FAULTS_OF_PLAN_AND_STATE, HANDED_ON, IDLE, MOST, NOTHING_MOVES, PLAN, STATE, WRONG_PLAN,
    all_plans, assert_errors_in_order, fill, parcels_of, random_plan, scattered,
)
from swapshelves.effects import cycles, effect_of
from swapshelves.errors import (
    DifferentSizes, InvalidArrangement, InvalidCount, InvalidPlan, InvalidState, InvalidSwap,
)
from swapshelves.movement import advance
from swapshelves.plans import pattern_length, places
from swapshelves.swaps import arrangement, fewest_swaps, first_difference, plan_swaps, swap_all

HUGE = 10 ** 5000
COUNTS = (0, 1, 2, 17, 61, -1, -5, -60, MOST, -MOST, MOST - 7, 123456789012345678)
WRONG_COUNTS = (MOST + 1, -MOST - 1, HUGE, -HUGE, None, True)
WRONG_GOALS = (
    (1, 2, 3, 5, 6), (1, 2, 3, 4, 4), (1, 2, 3, 4), (1, 2, 3, 4, 5, 6), (), [1, 2, 3, 4, 5], "12345", None,
    (1, 2, 3, 4, None), (1, 2, 3, 4, "5"), (True, 2, 3, 4, 5), (0, 2, 3, 4, 5), (1, 2, 3, 4, HUGE), STATE,
)
ONE, TWO = ("carrier", 0), ("shelf", 1, 1)
WRONG_SWAPS = (
    (ONE, ONE), (TWO, TWO), (ONE,), (ONE, TWO, ONE), (), [ONE, TWO], None, 1, "ab", (ONE, ("carrier", 2)),
    (("shelf", 0, 1), ONE), (ONE, ("shelf", 2, 0)), (ONE, ("shelf", 1, -1)), (ONE, ["carrier", 1]),
    (ONE, ("carrier", True)), (("shelf", False, 0), ONE), (ONE, None), (0, 1), (ONE, "carrier"),
)


def shuffled(parcels, seed):
    """Return a tuple of the same parcels in an order by chance."""
    found = list(parcels)
    Random(seed).shuffle(found)
    return tuple(found)


def moves_between(plan, state, goal, count):
    """Return the effect by which a state becomes one that the ticks lead to a goal."""
    before = parcels_of(state)
    wanted = parcels_of(advance(plan, fill(plan, state[0] + count, goal), -count)) if count else list(goal)
    return tuple(wanted.index(parcel) for parcel in before)


def distances(many):
    """Return a dict of all arrangements and how many swaps lead to each of them from one."""
    first = tuple(range(1, many + 1))
    found = {first: 0}
    queue = deque([first])
    while queue:
        one = queue.popleft()
        for low, high in combinations(range(many), 2):
            other = list(one)
            other[low], other[high] = other[high], other[low]
            if tuple(other) not in found:
                found[tuple(other)] = found[one] + 1
                queue.append(tuple(other))
    return found


class ArrangementTest(unittest.TestCase):
    def test_example(self):
        self.assertEqual(arrangement(PLAN, STATE), (1, 2, 3, 4, 5))

    def test_parcels_in_the_order_of_the_places(self):
        for plan in all_plans():
            state = scattered(plan, 7)
            self.assertEqual(arrangement(plan, state), tuple(parcels_of(state)))
            self.assertIs(type(arrangement(plan, state)), tuple)
        self.assertEqual(arrangement(ALONE, (-3, (999,), ((),))), (999,))

    def test_errors_in_their_order(self):
        assert_errors_in_order(self, arrangement, (PLAN, STATE), FAULTS_OF_PLAN_AND_STATE)


class PlanSwapsTest(unittest.TestCase):
    def test_examples(self):
        told = plan_swaps(PLAN, STATE, (1, 2, 3, 5, 4), 0)
        self.assertEqual(told, [(("shelf", 1, 0), ("shelf", 1, 1))])
        with self.assertRaises(InvalidArrangement):
            plan_swaps(PLAN, STATE, (1, 2, 3, 5, 6), 0)
        self.assertEqual(fewest_swaps(PLAN, STATE, (5, 2, 1, 3, 4), 2), 0)

    def test_swaps_and_then_ticks_lead_to_the_goal(self):
        for plan in all_plans():
            state = scattered(plan, -11)
            for seed, count in enumerate(COUNTS):
                goal = shuffled(parcels_of(state), seed)
                swaps = plan_swaps(plan, state, goal, count)
                swapped = swap_all(plan, state, swaps)
                self.assertEqual(swapped[0], -11)
                self.assertEqual(arrangement(plan, state), tuple(parcels_of(state)))
                self.assertEqual(parcels_of(advance(plan, swapped, count)), list(goal))

    def test_length_is_that_of_places_less_cycles(self):
        for plan in all_plans():
            state = scattered(plan, 3)
            for seed, count in enumerate(COUNTS):
                goal = shuffled(parcels_of(state), seed + 100)
                many = len(goal) - len(cycles(moves_between(plan, state, goal, count)))
                self.assertEqual(len(plan_swaps(plan, state, goal, count)), many)
                self.assertEqual(fewest_swaps(plan, state, goal, count), many)

    def test_no_shorter_list_exists(self):
        for plan in (PLAN, ((1, 0, 1), ((0, 1), (2, None))), ((2, 2), ((1, 0, 0), (0,)))):
            many = len(places(plan))
            state = fill(plan, 1, range(1, many + 1))
            known = distances(many)
            for goal in permutations(range(1, many + 1)):
                self.assertEqual(fewest_swaps(plan, state, goal, 0), known[goal])
                later = tuple(parcels_of(advance(plan, fill(plan, 1, goal), 3)))
                self.assertEqual(fewest_swaps(plan, state, later, 3), known[goal])

    def test_nothing_to_do(self):
        for plan in all_plans():
            state = scattered(plan, 5)
            for count in COUNTS:
                goal = arrangement(plan, advance(plan, state, count))
                self.assertEqual(plan_swaps(plan, state, goal, count), [])

    def test_each_swap_is_a_tuple_of_two_different_places(self):
        state = scattered(BUSY, 0)
        swaps = plan_swaps(BUSY, state, shuffled(parcels_of(state), 8), 4)
        self.assertIs(type(swaps), list)
        for swap in swaps:
            self.assertIs(type(swap), tuple)
            one, other = swap
            self.assertNotEqual(one, other)
            self.assertIn(one, places(BUSY))
            self.assertIn(other, places(BUSY))

    def test_what_is_no_arrangement_of_the_state(self):
        for goal in WRONG_GOALS:
            for function in (plan_swaps, fewest_swaps):
                with self.assertRaises(InvalidArrangement):
                    function(PLAN, STATE, goal, 0)
        state = (0, (10, 20), ((30,), (40, 50)))
        self.assertEqual(fewest_swaps(PLAN, state, (20, 10, 30, 40, 50), 0), 1)
        with self.assertRaises(InvalidArrangement):
            plan_swaps(PLAN, state, (1, 2, 3, 4, 5), 0)

    def test_errors_in_their_order(self):
        faults = FAULTS_OF_PLAN_AND_STATE + [(2, goal, InvalidArrangement) for goal in WRONG_GOALS]
        faults = faults + [(3, count, InvalidCount) for count in WRONG_COUNTS]
        for function in (plan_swaps, fewest_swaps):
            for count in (MOST, -MOST):
                assert_errors_in_order(self, function, (PLAN, STATE, (5, 4, 3, 2, 1), count), faults)


class SwapAllTest(unittest.TestCase):
    def test_examples(self):
        told = swap_all(PLAN, STATE, [(("carrier", 0), ("carrier", 1))])
        self.assertEqual(told, (0, (2, 1), ((3,), (4, 5))))
        with self.assertRaises(InvalidSwap) as caught:
            swap_all(PLAN, STATE, [(("carrier", 0), ("carrier", 2))])
        self.assertEqual(caught.exception.index, 0)

    def test_one_after_another(self):
        swaps = [(ONE, TWO), (TWO, ("shelf", 0, 0)), (("shelf", 0, 0), ("carrier", 1)), (ONE, TWO)]
        self.assertEqual(swap_all(PLAN, STATE, swaps), (0, (3, 1), ((2,), (4, 5))))
        self.assertEqual(swap_all(PLAN, STATE, [(ONE, TWO), (ONE, TWO)]), STATE)
        self.assertEqual(swap_all(PLAN, STATE, [(ONE, TWO), (TWO, ONE)]), STATE)

    def test_no_swaps(self):
        for plan in all_plans():
            state = scattered(plan, 10 ** 30)
            self.assertEqual(swap_all(plan, state, []), state)

    def test_the_list_is_not_changed(self):
        swaps = [(ONE, TWO)]
        swap_all(PLAN, STATE, swaps)
        self.assertEqual(swaps, [(ONE, TWO)])

    def test_index_of_the_first_wrong_swap(self):
        for wrong in WRONG_SWAPS:
            for before in range(3):
                for behind in ([], [(ONE, TWO)], [None]):
                    swaps = [(TWO, ONE)] * before + [wrong] + behind
                    with self.assertRaises(InvalidSwap, msg=str(wrong)) as caught:
                        swap_all(PLAN, STATE, swaps)
                    self.assertEqual(caught.exception.index, before)

    def test_errors_in_their_order(self):
        faults = FAULTS_OF_PLAN_AND_STATE + [(2, [wrong], InvalidSwap) for wrong in WRONG_SWAPS]
        assert_errors_in_order(self, swap_all, (PLAN, STATE, [(ONE, TWO)]), faults)


def slow_difference(plan, other, time):
    """Return the first number of ticks whose effects differ, by `effect_of`."""
    for count in range(1, 61):
        if effect_of(plan, time, count) != effect_of(other, time, count):
            return count
    return None


def with_route(plan, carrier, route):
    """Return a plan in which a carrier has another route."""
    routes = list(plan[1])
    routes[carrier] = route
    return plan[0], tuple(routes)


class FirstDifferenceTest(unittest.TestCase):
    def test_example(self):
        self.assertEqual(first_difference(PLAN, ((1, 2), ((0, 1), (None,))), 0), 1)

    def test_plans_that_do_not_differ(self):
        for plan in all_plans():
            for time in (0, -3, MOST):
                self.assertIsNone(first_difference(plan, plan, time))

    def test_one_route_written_in_two_ways(self):
        self.assertIsNone(first_difference(PLAN, ((1, 2), ((0, 1, 0, 1), (1, 1, 1)),), 0))
        self.assertIsNone(first_difference(PLAN, ((1, 2), ((0, 1, 0, 1, 0, 1), (1, 1)),), 7))

    def test_a_shelf_of_size_0_is_as_a_rest(self):
        plan = ((0, 2), ((0, 1), (1, 0, 0)))
        self.assertIsNone(first_difference(plan, ((0, 2), ((None, 1), (1, None, 0))), 5))
        self.assertIsNone(first_difference(NOTHING_MOVES, ((0, 0, 0), ((1,), (None, 2), (0, 1))), 5))

    def test_entries_that_come_late(self):
        plan = ((1, 1, 1), ((0, 1, 2, 0, 1), (2, 2, 1, 1, 0, 0)))
        other = with_route(plan, 0, (0, 1, 2, 0, None))
        for time, count in ((0, 5), (1, 4), (4, 1), (5, 5), (-1, 1), (10 ** 40, 5), (-10 ** 40, 5)):
            self.assertEqual(first_difference(plan, other, time), count)
            self.assertEqual(first_difference(other, plan, time), count)

    def test_the_whole_of_both_patterns_counts(self):
        # Both carriers change places at the shelf only if they come there in the same tick.
        plan = ((1, 1), ((None, None, None, None, 0), (None, None, None, 0)))
        other = ((1, 1), ((None, None, None, None, 0), (None, None, None, 0, None, None)))
        self.assertEqual(first_difference(plan, other, 0), slow_difference(plan, other, 0))
        one = ((0, 1), ((0, 0, 0, 0, 1), (0, 0, 0, 1)))
        two = ((0, 1), ((None, None, None, None, 1), (None, None, None, 1)))
        self.assertIsNone(first_difference(one, two, 0))
        for plan in all_plans():
            self.assertEqual(60 % pattern_length(plan), 0)

    def test_it_is_as_effects_tell_tick_by_tick(self):
        found = []
        for seed in range(60):
            source = Random(seed)
            plan = random_plan(seed)
            carrier = source.randrange(len(plan[1]))
            route = list(plan[1][carrier])
            entries = [None] + list(range(len(plan[0])))
            route[source.randrange(len(route))] = source.choice(entries)
            other = with_route(plan, carrier, tuple(route))
            time = source.randint(-100, 100)
            told = first_difference(plan, other, time)
            self.assertEqual(told, slow_difference(plan, other, time))
            found.append(told)
        self.assertIn(None, found)
        self.assertGreater(len(set(found)), 4)

    def test_routes_of_other_lengths(self):
        for seed in range(30):
            source = Random(seed)
            plan = random_plan(seed)
            other = with_route(plan, 0, random_plan(seed + 1)[1][0])
            if max(entry or 0 for entry in other[1][0]) < len(plan[0]):
                time = source.randint(-100, 100)
                self.assertEqual(first_difference(plan, other, time), slow_difference(plan, other, time))

    def test_other_sizes_and_other_numbers_of_carriers(self):
        for other in (
            ((1, 1), ((0, 1), (1,))), ((2, 1), ((0, 1), (1,))), ((1, 2, 0), ((0, 1), (1,))),
            ((1, 2), ((0, 1),)), ((1, 2), ((0, 1), (1,), (None,))), ALONE, IDLE, HANDED_ON,
        ):
            for pair in ((PLAN, other), (other, PLAN)):
                with self.assertRaises(DifferentSizes):
                    first_difference(*pair, 0)

    def test_errors_in_their_order(self):
        faults = [(0, WRONG_PLAN, InvalidPlan), (1, WRONG_PLAN, InvalidPlan), (1, ALONE, DifferentSizes)]
        assert_errors_in_order(self, first_difference, (PLAN, PLAN, 0), faults)
        with self.assertRaises(InvalidPlan) as caught:
            first_difference(((1, 2), ((0, 1), (2,))), WRONG_PLAN, 0)
        self.assertEqual((caught.exception.part, caught.exception.index), ("routes", 1))
        with self.assertRaises(InvalidPlan) as caught:
            first_difference(PLAN, ((1, 2), ()), 0)
        self.assertEqual((caught.exception.part, caught.exception.index), ("routes", -1))


class RepeatedCallsTest(unittest.TestCase):
    def test_returned_lists_belong_to_the_caller(self):
        goal = (5, 4, 3, 2, 1)
        first = plan_swaps(PLAN, STATE, goal, 3)
        kept = list(first)
        first.clear()
        with self.assertRaises(InvalidState):
            plan_swaps(PLAN, (0, (1, 2), ((3,), (4, 4))), goal, 3)
        self.assertEqual(plan_swaps(PLAN, STATE, goal, 3), kept)


if __name__ == "__main__":
    unittest.main()
