"""Tests of plans and states that correspond: points 2 to 5, near and far, and with programs.

Parcels have other numbers, shelves are renumbered, times are moved by whole
patterns, or an idle carrier and an unvisited shelf are added. The answers then
correspond, too.
"""

import unittest
from random import Random

from programs import plain, random_program
from samples import MOST, all_plans, fill, parcels_of, scattered
from swapshelves.counting import arrival, stamps, times_left
from swapshelves.editing import put_in, reroute, take_out
from swapshelves.effects import effect_of
from swapshelves.movement import advance, locate, parcel_at, period
from swapshelves.plans import pattern_length, places, visits
from swapshelves.program_runs import (
    count_lefts, first_disagreement, program_effect, program_order, repetitions_to, run_program,
)
from swapshelves.states import initial_state, tick
from swapshelves.swaps import first_difference, plan_swaps, swap_all

COUNTS = (0, 1, 13, 61, -1, -29, MOST, -MOST)


def renumbered_place(place, shelves):
    """Return the place of a shelf with its new number, given the new numbers of all shelves."""
    return place if place[0] == "carrier" else ("shelf", shelves[place[1]], place[2])


def renumbered_plan(plan, shelves):
    """Return the plan in which the shelves have new numbers."""
    sizes = [None] * len(plan[0])
    for shelf, size in enumerate(plan[0]):
        sizes[shelves[shelf]] = size
    routes = [tuple(None if entry is None else shelves[entry] for entry in route) for route in plan[1]]
    return tuple(sizes), tuple(routes)


def renumbered_state(state, shelves):
    """Return the state in which the shelves have new numbers."""
    rows = [None] * len(state[2])
    for shelf, row in enumerate(state[2]):
        rows[shelves[shelf]] = row
    return state[0], state[1], tuple(rows)


def renumbered_program(parts, shelves):
    """Return the program in which the shelves have new numbers."""
    found = []
    for part in parts:
        if part[0] == "swap":
            found.append(("swap",) + tuple(renumbered_place(place, shelves) for place in part[1:]))
        elif part[0] == "route":
            entries = tuple(None if entry is None else shelves[entry] for entry in part[2])
            found.append(("route", part[1], entries))
        elif part[0] in ("repeat", "define"):
            found.append((part[0], part[1], renumbered_program(part[2], shelves)))
        else:
            found.append(part)
    return found


def with_idle(plan):
    """Return the plan with an idle carrier and an unvisited shelf of two parcels."""
    return plan[0] + (2,), plan[1] + ((None,),)


def with_idle_state(state):
    """Return the state with further parcels for the idle carrier and the unvisited shelf."""
    free = [parcel for parcel in range(1, 1000) if parcel not in parcels_of(state)]
    return state[0], state[1] + (free[0],), state[2] + ((free[1], free[2]),)


def cases():
    """Return a list of (plan, state, program, source of chance)."""
    found = []
    for seed, plan in enumerate(all_plans()):
        found.append((plan, scattered(plan, seed - 10), random_program(seed + 40, plan), Random(seed)))
    return found


class OtherNumbersOfParcelsTest(unittest.TestCase):
    def test_movement(self):
        for plan, state, _, source in cases():
            numbers = source.sample(range(1, 1000), len(parcels_of(state)))
            names = dict(zip(parcels_of(state), numbers))
            other = fill(plan, state[0], numbers)
            for count in COUNTS:
                later = [names[parcel] for parcel in parcels_of(advance(plan, state, count))]
                self.assertEqual(parcels_of(advance(plan, other, count)), later)
                for parcel in list(names)[:3]:
                    self.assertEqual(locate(plan, other, names[parcel], count), locate(plan, state, parcel, count))
            for parcel in list(names)[:3]:
                self.assertEqual(stamps(plan, other, names[parcel], 30), stamps(plan, state, parcel, 30))

    def test_programs(self):
        for plan, state, parts, source in cases():
            text = plain(parts)
            numbers = source.sample(range(1, 1000), len(parcels_of(state)))
            names = dict(zip(parcels_of(state), numbers))
            other = fill(plan, state[0], numbers)
            later, moved = run_program(plan, state, text)
            told = fill(plan, moved[0], [names[parcel] for parcel in parcels_of(moved)])
            self.assertEqual(run_program(plan, other, text), (later, told))
            for parcel in list(names)[:3]:
                self.assertEqual(count_lefts(plan, other, text, names[parcel]), count_lefts(plan, state, text, parcel))
                for place in places(plan)[:3]:
                    told = repetitions_to(plan, state, text, parcel, place)
                    self.assertEqual(repetitions_to(plan, other, text, names[parcel], place), told)

    def test_swaps(self):
        for plan, state, _, source in cases():
            numbers = source.sample(range(1, 1000), len(parcels_of(state)))
            names = dict(zip(parcels_of(state), numbers))
            goal = list(names)
            source.shuffle(goal)
            other = fill(plan, state[0], numbers)
            for count in COUNTS:
                swaps = plan_swaps(plan, state, tuple(goal), count)
                renamed = plan_swaps(plan, other, tuple(names[parcel] for parcel in goal), count)
                self.assertEqual(len(renamed), len(swaps))
                moved = [names[parcel] for parcel in parcels_of(swap_all(plan, state, swaps))]
                self.assertEqual(parcels_of(swap_all(plan, other, swaps)), moved)


class RenumberedShelvesTest(unittest.TestCase):
    def test_movement(self):
        for plan, state, _, source in cases():
            shelves = list(range(len(plan[0])))
            source.shuffle(shelves)
            other = renumbered_plan(plan, shelves)
            twin = renumbered_state(state, shelves)
            self.assertEqual(pattern_length(other), pattern_length(plan))
            self.assertEqual(period(other, twin), period(plan, state))
            for number in (-7, 0, 5):
                told = [(carrier, shelves[shelf]) for carrier, shelf in visits(plan, number)]
                self.assertEqual(visits(other, number), told)
            for count in COUNTS:
                told = renumbered_state(advance(plan, state, count), shelves)
                self.assertEqual(advance(other, twin, count), told)
                parcel = parcels_of(state)[-1]
                told = renumbered_place(locate(plan, state, parcel, count), shelves)
                self.assertEqual(locate(other, twin, parcel, count), told)
                for place in places(plan)[-2:]:
                    told = parcel_at(plan, state, place, count)
                    self.assertEqual(parcel_at(other, twin, renumbered_place(place, shelves), count), told)

    def test_programs(self):
        for plan, state, parts, source in cases():
            shelves = list(range(len(plan[0])))
            source.shuffle(shelves)
            other = renumbered_plan(plan, shelves)
            twin = renumbered_state(state, shelves)
            text, texts = plain(parts), plain(renumbered_program(parts, shelves))
            later, moved = run_program(plan, state, text)
            told = (renumbered_plan(later, shelves), renumbered_state(moved, shelves))
            self.assertEqual(run_program(other, twin, texts), told)
            self.assertEqual(program_order(other, 5, texts), program_order(plan, 5, text))
            for parcel in parcels_of(state)[:4]:
                counts = count_lefts(plan, state, text, parcel)
                told = count_lefts(other, twin, texts, parcel)
                self.assertEqual([told[shelf] for shelf in shelves], counts)

    def test_differences(self):
        for plan, _, parts, source in cases():
            shelves = list(range(len(plan[0])))
            source.shuffle(shelves)
            later, _, _ = program_effect(plan, 0, plain(parts))
            told = first_difference(plan, later, 9)
            self.assertEqual(first_difference(renumbered_plan(plan, shelves), renumbered_plan(later, shelves), 9), told)


class MovedTimesTest(unittest.TestCase):
    def test_movement(self):
        for plan, state, _, _ in cases():
            length = pattern_length(plan)
            for laps in (1, -1, 7, MOST, -MOST):
                time = state[0] + laps * length
                other = (time,) + state[1:]
                self.assertEqual(tick(plan, other)[1], tick(plan, state)[1])
                for count in COUNTS:
                    told = advance(plan, state, count)
                    self.assertEqual(advance(plan, other, count), (time + count,) + told[1:])
                    self.assertEqual(effect_of(plan, time, count), effect_of(plan, state[0], count))

    def test_programs(self):
        # A program may change routes: the times of all patterns are moved by 60.
        for plan, state, parts, _ in cases():
            text = plain(parts)
            later, moved = run_program(plan, state, text)
            for laps in (1, -1, 7, MOST, -MOST):
                other = (state[0] + 60 * laps,) + state[1:]
                self.assertEqual(run_program(plan, other, text), (later, (moved[0] + 60 * laps,) + moved[1:]))
                self.assertEqual(program_order(plan, other[0], text), program_order(plan, state[0], text))
                parcel = parcels_of(state)[0]
                self.assertEqual(count_lefts(plan, other, text, parcel), count_lefts(plan, state, text, parcel))

    def test_differences(self):
        for plan, _, parts, _ in cases():
            later, _, _ = program_effect(plan, 0, plain(parts))
            for time in (0, 13):
                for laps in (1, -1, MOST):
                    told = first_difference(plan, later, time)
                    self.assertEqual(first_difference(plan, later, time + 60 * laps), told)


class IdleCarrierTest(unittest.TestCase):
    def cases(self):
        return [case for case in cases() if len(case[0][0]) < 12 and len(case[0][1]) < 6]

    def test_movement(self):
        self.assertGreater(len(self.cases()), 10)
        for plan, state, _, _ in self.cases():
            other, twin = with_idle(plan), with_idle_state(state)
            self.assertEqual(pattern_length(other), pattern_length(plan))
            self.assertEqual(tick(other, twin), (with_idle_state(tick(plan, state)[0]), tick(plan, state)[1]))
            for count in COUNTS:
                self.assertEqual(advance(other, twin, count), with_idle_state(advance(plan, state, count)))
            for parcel in parcels_of(state)[:3]:
                for place in places(plan)[:3]:
                    told = arrival(plan, state, parcel, place)
                    self.assertEqual(arrival(other, twin, parcel, place), told)
                self.assertEqual(times_left(other, twin, parcel, len(plan[0]), MOST), 0)

    def test_programs(self):
        for plan, state, parts, _ in self.cases():
            text = plain(parts)
            other, twin = with_idle(plan), with_idle_state(state)
            later, moved = run_program(plan, state, text)
            self.assertEqual(run_program(other, twin, text), (with_idle(later), with_idle_state(moved)))
            self.assertEqual(program_order(other, 3, text), program_order(plan, 3, text))
            more = text + " ticks 1;"
            self.assertEqual(first_disagreement(other, text, more), first_disagreement(plan, text, more))
            for parcel in parcels_of(state)[:3]:
                self.assertEqual(count_lefts(other, twin, text, parcel), count_lefts(plan, state, text, parcel) + [0])
            for parcel in parcels_of(twin)[-2:]:
                self.assertEqual(count_lefts(other, twin, text, parcel), [0] * len(other[0]))

    def test_differences(self):
        for plan, _, parts, _ in self.cases():
            later, _, _ = program_effect(plan, 0, plain(parts))
            told = first_difference(plan, later, 4)
            self.assertEqual(first_difference(with_idle(plan), with_idle(later), 4), told)


class ReturnedPlansAndStatesTest(unittest.TestCase):
    """Points 2 to 5 hold for the plans and states that editing, swaps and programs return."""

    def assert_good(self, plan, state):
        self.assertEqual(fill(plan, state[0], parcels_of(state)), state)
        self.assertEqual(parcels_of(initial_state(plan)), list(range(1, len(places(plan)) + 1)))
        for count in COUNTS:
            later = advance(plan, state, count)
            self.assertEqual(later[0], state[0] + count)
            self.assertEqual(advance(plan, later, -count), state)
        for number in (-3, 0, 8):
            self.assertEqual(visits(plan, number + pattern_length(plan)), visits(plan, number))
        self.assertEqual(advance(plan, state, 1), tick(plan, state)[0])
        for place, parcel in zip(places(plan), parcels_of(state)):
            self.assertEqual(locate(plan, state, parcel, 0), place)
            self.assertEqual(parcel_at(plan, state, place, 0), parcel)

    def test_programs(self):
        for plan, state, parts, _ in cases():
            self.assert_good(*run_program(plan, state, plain(parts)))

    def test_editing(self):
        for plan, state, _, source in cases():
            for shelf, size in enumerate(plan[0]):
                if size < 9:
                    self.assert_good(*put_in(plan, state, shelf, 998))
                if size > 0:
                    self.assert_good(*take_out(plan, state, state[2][shelf][size // 2]))
            route = tuple(source.choice([None] + list(range(len(plan[0])))) for _ in range(5))
            self.assert_good(reroute(plan, 0, route), state)

    def test_swaps(self):
        for plan, state, _, source in cases():
            goal = parcels_of(state)
            source.shuffle(goal)
            swaps = plan_swaps(plan, state, tuple(goal), 5)
            self.assert_good(plan, swap_all(plan, state, swaps))


if __name__ == "__main__":
    unittest.main()
