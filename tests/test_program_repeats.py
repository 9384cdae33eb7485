"""Tests of programs that are performed again and again, and of two programs: point 20."""

import unittest

from programs import Run, loose, random_program
from samples import (
    ALONE, BUSY, FAULTS_OF_PLAN_AND_STATE, HANDED_ON, IDLE, MOST, PLAN, STATE, WRONG_PLAN,
    all_plans, assert_errors_in_order, fill, parcels_of, scattered, unknown_parcels,
)
from swapshelves.effects import compose
from swapshelves.errors import InvalidPlan, ProgramError, ProgramSyntaxError, UnknownPlace
from swapshelves.movement import period
from swapshelves.plans import places
from swapshelves.program_runs import (
    first_disagreement, program_effect, program_order, repetitions_to, run_program,
)

SMALL = ((2,), ((0,),))
SMALL_STATE = (0, (1,), ((2, 3),))
THREE = ((1, 0, 1), ((0, 1, 2), (None, 2)))
FEW = (SMALL, THREE, PLAN, ((0, 1), ((1, 0, None),)))
WRONG_PLACES = [
    ("carrier", 2), ("carrier", -1), ("shelf", 0, 1), ("shelf", 2, 0), ("shelf", 1, -1), (), None, ["carrier", 0],
    ("carrier", True), ("carrier", 10 ** 5000),
]


def faults_of_source(index):
    """Return the faults of a program that is the argument with an index."""
    return [(index, "ticks", ProgramSyntaxError), (index, "route 2: 0;", ProgramError)]


def slow_order(plan, time, source, most):
    """Return after how many runs nothing is changed but the time, None if not in so many."""
    now, later = plan, time
    known = tuple(range(len(places(plan))))
    effect = known
    for many in range(1, most + 1):
        now, ticks, step = program_effect(now, later, source)
        later += ticks
        effect = compose(effect, step)
        if now == plan and effect == known and (later - time) % 60 == 0:
            return many
    return None


def slow_repetitions(plan, state, source, parcel, place, most):
    """Return after how many runs a parcel is at a place, None if not in so many."""
    number = places(plan).index(place)
    for many in range(most + 1):
        if parcels_of(state)[number] == parcel:
            return many
        plan, state = run_program(plan, state, source)
    return None


class ProgramOrderTest(unittest.TestCase):
    def test_examples(self):
        told = [program_order(SMALL, 0, source) for source in
                ("ticks 1;", "swap carrier 0, shelf 0 1;", "route 0: rest;")]
        self.assertEqual(told, [60, 2, None])

    def test_programs_that_change_nothing(self):
        for plan in all_plans():
            for source in ("", "ticks 0;", "define a { ticks 1; }", "ticks 7; back 7;", "repeat 0 { route 0: rest; }"):
                self.assertEqual(program_order(plan, 7, source), 1)

    def test_ticks_of_a_whole_period(self):
        for plan in all_plans():
            whole = period(plan, scattered(plan, 0))
            told = program_order(plan, 0, "ticks 60;")
            self.assertEqual(told * 60 % whole, 0)
            for count in (1, 7, 59, 61, 12):
                self.assertEqual(program_order(plan, 3, f"ticks {count};") * count % 60, 0)
                self.assertEqual(program_order(plan, 3, f"back {count};"), program_order(plan, 3, f"ticks {count};"))

    def test_the_time_must_differ_by_a_multiple_of_60(self):
        for count, many in ((1, 60), (7, 60), (2, 30), (45, 4), (60, 1), (120, 1), (59, 60), (90, 2)):
            self.assertEqual(program_order(IDLE, 0, f"ticks {count};"), many)
            self.assertEqual(program_order(IDLE, 0, f"back {count};"), many)
            self.assertEqual(program_order(ALONE, 0, f"repeat {MOST} {{ ticks 60; }} ticks {count};"), many)

    def test_runs_one_by_one(self):
        found = set()
        for seed in range(150):
            plan = FEW[seed % 4]
            source = loose(random_program(seed, plan, most=3, rounds=2, ticks=70), seed)
            told = program_order(plan, seed, source)
            self.assertEqual(told, slow_order(plan, seed, source, 720))
            found.add(told)
        self.assertIn(None, found)
        self.assertGreater(len(found), 10)

    def test_routes_that_are_changed_for_good(self):
        self.assertIsNone(program_order(PLAN, 0, "route 0: 1;"))
        self.assertIsNone(program_order(PLAN, 0, "repeat 1 { route 0: 0 1 0 1; }"))
        self.assertIsNone(program_order(PLAN, 0, "define a { route 1: rest; } ticks 5; call a; back 5;"))

    def test_routes_that_are_restored(self):
        self.assertEqual(program_order(PLAN, 0, "route 0: 0 1;"), 1)
        self.assertEqual(program_order(PLAN, 0, "route 0: 1; route 1: 0; route 0: 0 1; route 1: 1;"), 1)
        source = "route 0: 1; ticks 60; route 0: 0 1;"
        self.assertEqual(program_order(PLAN, 0, source), slow_order(PLAN, 0, source, 1000))

    def test_far_numbers(self):
        self.assertEqual(program_order(SMALL, 0, f"repeat {MOST} {{ ticks {MOST}; }}"), program_order(SMALL, 0, "ticks 40;"))
        source = f"repeat {MOST - 1} {{ ticks 1; swap carrier 0, shelf 0 1; }}"
        self.assertEqual(program_order(SMALL, 10 ** 50, source), slow_order(SMALL, 10 ** 50, source, 1000))

    def test_errors_in_their_order(self):
        faults = [(0, WRONG_PLAN, InvalidPlan)] + faults_of_source(2)
        assert_errors_in_order(self, program_order, (PLAN, 0, "ticks 1;"), faults)


class RepetitionsToTest(unittest.TestCase):
    def test_examples(self):
        told = [repetitions_to(SMALL, SMALL_STATE, source, 3, ("carrier", 0)) for source in ("ticks 2;", "")]
        self.assertEqual(told, [1, None])

    def test_a_parcel_that_is_there_already(self):
        for plan in all_plans():
            state = scattered(plan, -4)
            for place, parcel in zip(places(plan), parcels_of(state)):
                self.assertEqual(repetitions_to(plan, state, "ticks 5; route 0: rest;", parcel, place), 0)

    def test_runs_one_by_one(self):
        found = set()
        for seed in range(120):
            plan = FEW[seed % 4]
            state = fill(plan, seed, range(1, len(places(plan)) + 1))
            source = loose(random_program(seed, plan, most=3, rounds=2, ticks=70), seed)
            for place in places(plan):
                told = repetitions_to(plan, state, source, 1, place)
                self.assertEqual(told, slow_repetitions(plan, state, source, 1, place, 305))
                found.add(told)
        self.assertIn(None, found)
        self.assertGreater(len(found), 10)

    def test_tick_by_tick(self):
        for seed in range(60):
            plan = FEW[seed % 4]
            state = fill(plan, seed, range(1, len(places(plan)) + 1))
            parts = random_program(seed + 500, plan, most=3)
            source = loose(parts, seed)
            for place in places(plan)[:2]:
                told = repetitions_to(plan, state, source, 2, place)
                for many in range(min(told or 0, 40)):
                    self.assertNotEqual(parcels_of(Run(plan, state, parts, many).state)[places(plan).index(place)], 2)
                if told is not None and told < 40:
                    self.assertEqual(parcels_of(Run(plan, state, parts, told).state)[places(plan).index(place)], 2)

    def test_a_route_that_is_changed_for_good(self):
        # The first run is by another route than all later ones.
        source = "ticks 1; route 0: rest;"
        self.assertEqual(repetitions_to(SMALL, SMALL_STATE, source, 2, ("carrier", 0)), 1)
        self.assertIsNone(repetitions_to(SMALL, SMALL_STATE, source, 3, ("carrier", 0)))
        source = "route 0: 0 rest; ticks 1;"
        self.assertEqual(repetitions_to(SMALL, SMALL_STATE, source, 3, ("carrier", 0)), 3)

    def test_far_numbers(self):
        source = f"ticks {MOST}; repeat {MOST} {{ swap carrier 0, shelf 0 0; ticks 1; }}"
        for place in places(SMALL):
            for parcel in (1, 2, 3):
                told = repetitions_to(SMALL, SMALL_STATE, source, parcel, place)
                self.assertEqual(told, slow_repetitions(SMALL, SMALL_STATE, source, parcel, place, 200))
        state = (10 ** 30,) + SMALL_STATE[1:]
        self.assertEqual(repetitions_to(SMALL, state, "ticks 1;", 3, ("carrier", 0)), 2)

    def test_errors_in_their_order(self):
        faults = FAULTS_OF_PLAN_AND_STATE + faults_of_source(2) + unknown_parcels(3)
        faults = faults + [(4, place, UnknownPlace) for place in WRONG_PLACES]
        assert_errors_in_order(self, repetitions_to, (PLAN, STATE, "ticks 1;", 5, ("shelf", 1, 1)), faults)
        assert_errors_in_order(self, repetitions_to, (PLAN, STATE, "", 5, ("shelf", 1, 0)), faults)


class FirstDisagreementTest(unittest.TestCase):
    def test_examples(self):
        told = [first_disagreement(SMALL, "ticks 3;", other) for other in ("ticks 5; back 2;", "")]
        self.assertEqual(told, [None, 0])

    def test_equal_programs(self):
        for seed, plan in enumerate(all_plans()):
            parts = random_program(seed, plan)
            self.assertIsNone(first_disagreement(plan, loose(parts, seed), loose(parts, seed + 1)))

    def test_times_one_by_one(self):
        found = set()
        for seed in range(60):
            plan = (BUSY, THREE, HANDED_ON, PLAN)[seed % 4]
            one = loose(random_program(seed, plan, most=2, ticks=3), seed)
            other = loose(random_program(seed + 1, plan, most=2, ticks=3), seed)
            for source, later in ((one, other), (one + " ticks 1;", "ticks 1;" + one), (one + "ticks 20;", "ticks 20;" + one)):
                told = first_disagreement(plan, source, later)
                times = [time for time in range(130)
                         if program_effect(plan, time, source) != program_effect(plan, time, later)]
                self.assertEqual(told, times[0] if times else None)
                found.add(told)
        self.assertIn(None, found)
        self.assertGreater(len(found), 2)

    def test_programs_that_agree_at_some_times_only(self):
        plan = ((1, 1), ((None, None, None, None, 0), (None, None, None, 1)))
        swap = "swap carrier 0, carrier 1;"
        for count, time in ((1, 3), (2, 2), (3, 1), (4, 0)):
            # The swap may be before or behind ticks in which no carrier comes to a shelf.
            self.assertEqual(first_disagreement(plan, f"{swap} ticks {count};", f"ticks {count}; {swap}"), time)
        plan = ((1, 1), ((None, None, None, None, 0), (None,)))
        self.assertEqual(first_disagreement(plan, "ticks 1; route 0: rest; back 1;", "route 0: rest;"), 4)

    def test_another_plan_afterwards(self):
        self.assertEqual(first_disagreement(IDLE, "route 0: rest;", "route 0: rest rest;"), 0)
        self.assertEqual(first_disagreement(IDLE, "route 0: rest;", "route 1: rest;"), 0)
        self.assertIsNone(first_disagreement(IDLE, "route 0: 0; route 1: rest;", "route 1: rest; route 0: 0;"))

    def test_another_number_of_ticks(self):
        self.assertEqual(first_disagreement(IDLE, "ticks 60;", "ticks 120;"), 0)
        self.assertEqual(first_disagreement(ALONE, "ticks 1;", "back 1;"), 0)
        self.assertIsNone(first_disagreement(PLAN, f"repeat 2 {{ ticks {MOST}; }}", f"repeat {MOST} {{ ticks 2; }}"))

    def test_errors_in_their_order(self):
        faults = [(0, WRONG_PLAN, InvalidPlan)] + faults_of_source(1) + faults_of_source(2)
        assert_errors_in_order(self, first_disagreement, (PLAN, "ticks 1;", "back 1;"), faults)


if __name__ == "__main__":
    unittest.main()
