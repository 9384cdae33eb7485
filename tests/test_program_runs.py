"""Tests of what programs do once: point 19."""

import unittest

from programs import Run, canonical, loose, plain, random_program
from samples import (
    ALONE, BUSY, FAULTS_OF_PLAN_AND_STATE, HANDED_ON, MOST, PLAN, STATE, WRONG_PLAN,
    all_plans, assert_errors_in_order, fill, parcels_of, random_plan, scattered, unknown_parcels,
)
from swapshelves.counting import times_left
from swapshelves.effects import effect_of, invert, order, repeat
from swapshelves.errors import (
    InvalidCount, InvalidPlan, InvalidState, ProgramError, ProgramSyntaxError, UnknownParcel,
)
from swapshelves.movement import advance
from swapshelves.plans import places
from swapshelves.program_runs import count_lefts, program_effect, run_program
from swapshelves.states import apply_effect
from swapshelves.swaps import swap_all

SMALL = ((2,), ((0,),))
SMALL_STATE = (0, (1,), ((2, 3),))
FAR = 10 ** 30
FAULTS_OF_PROGRAMS = [(2, "ticks", ProgramSyntaxError), (2, "call a;", ProgramError), (2, "route 2: 0;", ProgramError)]


def nested(block, rounds, depth):
    """Return a program in which a block is repeated so often, in so many repeats."""
    return f"repeat {rounds} {{ " * depth + block + " }" * depth


def all_lefts(plan, state, source):
    """Return a dict of all parcels and how often they are left on each shelf."""
    return {parcel: count_lefts(plan, state, source, parcel) for parcel in parcels_of(state)}


def lefts_of_ticks(plan, state, count):
    """Return the same for a number of ticks, by `times_left`."""
    found = {}
    for parcel in parcels_of(state):
        found[parcel] = [times_left(plan, state, parcel, shelf, count) for shelf in range(len(plan[0]))]
    return found


class ExamplesTest(unittest.TestCase):
    def test_run_program(self):
        told = run_program(SMALL, SMALL_STATE, "ticks 1; route 0: rest;")
        self.assertEqual(told, (((2,), ((None,),)), (1, (2,), ((3, 1),))))
        source = "repeat 1000000000000000000 { ticks 1; swap carrier 0, shelf 0 0; }"
        told = run_program(SMALL, SMALL_STATE, source)[1]
        self.assertEqual(told, (1000000000000000000, (1,), ((2, 3),)))
        with self.assertRaises(ProgramError) as caught:
            run_program(SMALL, SMALL_STATE, "swap carrier 0, shelf 1 0;")
        told = caught.exception
        self.assertEqual((told.reason, told.row, told.column), ("place", 0, 16))

    def test_program_effect(self):
        self.assertEqual(program_effect(SMALL, 0, "ticks 4;"), (((2,), ((0,),)), 4, (2, 0, 1)))

    def test_count_lefts(self):
        self.assertEqual(count_lefts(SMALL, SMALL_STATE, "ticks 4;", 1), [2])
        self.assertEqual(count_lefts(SMALL, SMALL_STATE, "back 1;", 3), [-1])


class SingleStatementsTest(unittest.TestCase):
    def test_the_empty_program(self):
        for plan in all_plans():
            state = scattered(plan, -9)
            for source in ("", "\n", "# nothing\n", "define a { ticks 5; }", "repeat 0 { ticks 5; route 0: rest; }",
                           "repeat 7 {}", "define a {} repeat 3 { call a; }", "ticks 0; back 0;"):
                self.assertEqual(run_program(plan, state, source), (plan, state))
                many = len(places(plan))
                self.assertEqual(program_effect(plan, 3, source), (plan, 0, tuple(range(many))))
                self.assertEqual(count_lefts(plan, state, source, parcels_of(state)[0]), [0] * len(plan[0]))

    def test_ticks_are_as_advance(self):
        for plan in all_plans():
            for time in (0, -7, 10 ** 29, -10 ** 29):
                state = scattered(plan, time)
                for count in (0, 1, 5, 61, 12345678901, MOST):
                    told = (plan, advance(plan, state, count))
                    self.assertEqual(run_program(plan, state, f"ticks {count};"), told)
                    told = (plan, advance(plan, state, -count))
                    self.assertEqual(run_program(plan, state, f"back {count};"), told)

    def test_effects_of_ticks_are_as_effect_of(self):
        for plan in all_plans():
            for time in (0, -7, 10 ** 40, -10 ** 40 + 1):
                for count in (0, 1, 5, 61, MOST):
                    told = (plan, count, effect_of(plan, time, count))
                    self.assertEqual(program_effect(plan, time, f"ticks {count};"), told)
                    told = (plan, -count, effect_of(plan, time, -count))
                    self.assertEqual(program_effect(plan, time, f"back {count};"), told)

    def test_lefts_of_ticks_are_as_times_left(self):
        for plan in all_plans()[:14]:
            state = scattered(plan, 8)
            for count in (0, 1, 5, 61, MOST):
                told = lefts_of_ticks(plan, state, count)
                parcels = parcels_of(state)[::5]
                for parcel in parcels:
                    self.assertEqual(count_lefts(plan, state, f"ticks {count};", parcel), told[parcel])
                before = advance(plan, state, -count)
                told = lefts_of_ticks(plan, before, count)
                for parcel in parcels:
                    undone = [-many for many in told[parcel]]
                    self.assertEqual(count_lefts(plan, state, f"back {count};", parcel), undone)

    def test_swaps_are_as_swap_all(self):
        for plan in (PLAN, BUSY, HANDED_ON):
            state = scattered(plan, 5)
            known = places(plan)
            for one in known:
                for other in known:
                    if one != other:
                        source = plain([("swap", one, other)])
                        told = swap_all(plan, state, [(one, other)])
                        self.assertEqual(run_program(plan, state, source), (plan, told))
                        self.assertEqual(count_lefts(plan, state, source, parcels_of(state)[0]), [0] * len(plan[0]))

    def test_routes(self):
        told = run_program(PLAN, STATE, "route 1: 0 rest;")
        self.assertEqual(told, (((1, 2), ((0, 1), (0, None))), STATE))
        told = run_program(PLAN, STATE, "route 1: 0 rest; route 0: rest; route 1: 1 1 1 1 1 1;")
        self.assertEqual(told, (((1, 2), ((None,), (1, 1, 1, 1, 1, 1))), STATE))

    def test_a_route_begins_by_the_number_of_the_tick_not_when_it_is_given(self):
        told = run_program(PLAN, STATE, "ticks 1; route 0: 0 1; route 1: rest; ticks 1;")
        plan = ((1, 2), ((0, 1), (None,)))
        self.assertEqual(told, (plan, advance(plan, advance(PLAN, STATE, 1), 1)))
        self.assertEqual(run_program(PLAN, STATE, "ticks 1; route 0: 1 0; back 1; route 0: 0 1;")[1][0], 0)

    def test_back_is_by_the_plan_of_the_moment(self):
        source = "ticks 3; route 0: 1; back 3;"
        plan = ((1, 2), ((1,), (1,)))
        told = advance(plan, advance(PLAN, STATE, 3), -3)
        self.assertNotEqual(told, STATE)
        self.assertEqual(run_program(PLAN, STATE, source), (plan, told))

    def test_calls(self):
        source = "define a { ticks 2; swap carrier 0, carrier 1; } ticks 1; call a; repeat 2 { call a; } "
        flat = "ticks 1; " + "ticks 2; swap carrier 0, carrier 1; " * 3
        self.assertEqual(run_program(PLAN, STATE, source), run_program(PLAN, STATE, flat))
        self.assertEqual(all_lefts(PLAN, STATE, source), all_lefts(PLAN, STATE, flat))


class SimulationTest(unittest.TestCase):
    def assert_as_simulated(self, plan, state, parts, source):
        run = Run(plan, state, parts)
        self.assertEqual(run_program(plan, state, source), (run.plan, run.state), source)
        later, ticks, effect = program_effect(plan, state[0], source)
        self.assertEqual((later, ticks), (run.plan, run.state[0] - state[0]), source)
        moved = apply_effect(plan, state, effect)
        self.assertEqual(moved[1:], run.state[1:], source)
        for parcel in parcels_of(state)[::3]:
            self.assertEqual(count_lefts(plan, state, source, parcel), run.lefts[parcel], source)

    def test_random_programs(self):
        for seed in range(400):
            plan = (all_plans() + [SMALL, HANDED_ON])[seed % 32]
            parts = random_program(seed, plan)
            self.assert_as_simulated(plan, scattered(plan, seed % 121 - 60), parts, loose(parts, seed))

    def test_random_programs_of_a_few_places(self):
        for seed in range(600):
            plan = (PLAN, SMALL, HANDED_ON, ((1, 0, 2), ((0, 1, 2), (None, 2), (2, 0, 1, None, 1))))[seed % 4]
            parts = random_program(seed + 1000, plan, rounds=5, ticks=7)
            self.assert_as_simulated(plan, scattered(plan, seed % 121 - 60), parts, canonical(parts))

    def test_many_rounds(self):
        for seed in range(60):
            plan = (PLAN, SMALL, HANDED_ON, random_plan(6))[seed % 4]
            parts = [("repeat", 130 + seed, random_program(seed, plan, most=3, depth=1, ticks=3))]
            if parts[0][2] and all(part[0] != "define" for part in parts[0][2]):
                self.assert_as_simulated(plan, scattered(plan, seed), parts, plain(parts))


class FarTest(unittest.TestCase):
    def test_a_times_b_rounds_are_as_nested_rounds(self):
        for seed in range(60):
            plan = (PLAN, SMALL, HANDED_ON, BUSY, random_plan(seed))[seed % 5]
            state = scattered(plan, seed)
            block = plain([part for part in random_program(seed, plan) if part[0] not in ("define", "call")])
            if "call" in block:
                continue
            for one, other in ((3, 4), (7, 60), (1, 10 ** 18), (10 ** 9, 10 ** 9), (2, 5 * 10 ** 17), (999999937, 10 ** 9)):
                nests = f"repeat {one} {{ repeat {other} {{ {block} }} }}"
                flat = f"repeat {one * other} {{ {block} }}"
                self.assertEqual(program_effect(plan, seed, nests), program_effect(plan, seed, flat))
                parcel = parcels_of(state)[seed % 2]
                self.assertEqual(count_lefts(plan, state, nests, parcel), count_lefts(plan, state, flat, parcel))

    def test_rounds_are_as_those_before_and_the_last(self):
        source = "ticks 5; route 0: {0} rest; swap carrier 0, shelf {0} 0; back 2; route 1: {0}; ticks 4;"
        for plan, shelf in ((PLAN, 0), (PLAN, 1), (HANDED_ON, 2), (BUSY, 1)):
            block = source.replace("{0}", str(shelf))
            for rounds in (1, 2, 59, 60, 61, 12345, MOST - 1):
                one = program_effect(plan, 17, f"repeat {rounds} {{ {block} }} {block}")
                two = program_effect(plan, 17, f"{block} repeat {rounds} {{ {block} }}")
                both = program_effect(plan, 17, f"repeat {rounds + 1} {{ {block} }}")
                self.assertEqual(one, both)
                self.assertEqual(two, both)

    def test_rounds_that_take_no_time(self):
        source = "ticks 3; swap carrier 0, shelf 1 1; back 3;"
        _, ticks, once = program_effect(PLAN, 5, source)
        self.assertEqual(ticks, 0)
        for rounds in (2, 3, 10 ** 17 + 1, MOST):
            told = program_effect(PLAN, 5, f"repeat {rounds} {{ {source} }}")
            self.assertEqual(told, (PLAN, 0, repeat(once, rounds)))

    def test_routes_changed_within_loops(self):
        # Only the first round is by the plan's own route, and all later ones by the new route.
        source = f"repeat {MOST} {{ ticks 1; route 0: 0; route 1: rest; }}"
        plan = ((1, 2), ((0,), (None,)))
        state = advance(plan, advance(PLAN, STATE, 1), MOST - 1)
        self.assertEqual(run_program(PLAN, STATE, source), (plan, state))
        first = count_lefts(PLAN, STATE, "ticks 1;", 1)
        later = count_lefts(plan, advance(PLAN, STATE, 1), f"ticks {MOST - 1};", 1)
        both = [one + other for one, other in zip(first, later)]
        self.assertEqual(count_lefts(PLAN, STATE, source, 1), both)

    def test_twenty_nested_loops(self):
        for block in ("ticks 1;", "ticks 7; swap carrier 0, shelf 1 0;", "back 13; route 1: 0 rest 1; ticks 1;"):
            source = nested(block, MOST, 20)
            once = program_effect(PLAN, 3, f"repeat 2 {{ {block} }}")
            plan, ticks, effect = program_effect(PLAN, 3, source)
            self.assertEqual(ticks, MOST ** 20 * once[1] // 2)
            self.assertEqual(plan, once[0])
            back = {"ticks": "back", "back": "ticks", "swap": "swap"}
            if "route" not in block:
                steps = [step.strip() for step in block.split(";") if step.strip()]
                undo = " ".join(back[step.split()[0]] + step[len(step.split()[0]):] + ";" for step in reversed(steps))
                later = program_effect(PLAN, 3, source + nested(undo, MOST, 20))
                self.assertEqual(later, (PLAN, 0, tuple(range(5))))
                self.assertEqual(program_effect(PLAN, 3 + ticks, nested(undo, MOST, 20))[2], invert(effect))

    def test_counts_of_nested_loops(self):
        source = nested("ticks 1;", MOST, 20)
        told = all_lefts(SMALL, SMALL_STATE, source)
        self.assertEqual(sum(many[0] for many in told.values()), MOST ** 20)
        for many in told.values():
            self.assertLessEqual(abs(3 * many[0] - MOST ** 20), 3)
        told = all_lefts(PLAN, STATE, nested("ticks 3; back 1;", MOST, 20))
        self.assertEqual(sum(map(sum, told.values())), 4 * MOST ** 20)

    def test_ticks_far_away_undone(self):
        for plan in all_plans()[:12]:
            state = scattered(plan, -5)
            source = f"repeat {MOST} {{ ticks {MOST}; }} swap carrier 0, shelf 0 0; repeat {MOST} {{ back {MOST}; }}"
            if plan[0][0] == 0:
                source = source.replace("swap carrier 0, shelf 0 0;", "")
            self.assertEqual(run_program(plan, state, source)[1][0], -5)
            self.assertEqual(run_program(plan, run_program(plan, state, source)[1], source), (plan, state))

    def test_back_undoes_ticks_and_their_counts(self):
        for seed, plan in enumerate(all_plans()):
            state = scattered(plan, seed)
            for count in (1, 17, MOST):
                source = f"ticks {count}; back {count};"
                self.assertEqual(run_program(plan, state, source), (plan, state))
                for parcel in parcels_of(state)[::4]:
                    self.assertEqual(count_lefts(plan, state, source, parcel), [0] * len(plan[0]))
                self.assertEqual(run_program(plan, state, f"back {count}; ticks {count};"), (plan, state))

    def test_many_definitions_that_call_one_another(self):
        names = ["x" + "".join("abcdefghij"[int(digit)] for digit in str(number)) for number in range(3000)]
        source = f"define {names[0]} {{ ticks 1; }}\n"
        for before, name in zip(names, names[1:]):
            source += f"define {name} {{ call {before}; call {before}; }}\n"
        _, ticks, effect = program_effect(SMALL, 0, source + f"call {names[-1]};")
        self.assertEqual(ticks, 2 ** 2999)
        self.assertEqual(effect, repeat((2, 0, 1), 2 ** 2999 % 3))
        self.assertEqual(order(effect), 3)

    def test_a_definition_called_by_several_plans_and_times(self):
        source = "define a { ticks 5; } call a; route 0: 1; call a; route 1: 0 1 rest; call a; call a; ticks 1; call a;"
        flat = "ticks 5; route 0: 1; ticks 5; route 1: 0 1 rest; ticks 5; ticks 5; ticks 1; ticks 5;"
        self.assertEqual(run_program(PLAN, STATE, source), run_program(PLAN, STATE, flat))
        self.assertEqual(all_lefts(PLAN, STATE, source), all_lefts(PLAN, STATE, flat))

    def test_far_times(self):
        source = "ticks 7; route 0: 1 0 rest; back 3; repeat 4 { ticks 2; swap carrier 0, shelf 1 0; }"
        near = program_effect(PLAN, 7, source)
        for time in (67, 7 - 60, 7 + 60 * 10 ** 40, 7 - 60 * 10 ** 40):
            self.assertEqual(program_effect(PLAN, time, source), near)


class LimitsOfTimeTest(unittest.TestCase):
    def test_the_time_afterwards(self):
        for time, right, wrong in (
            (FAR, "back 1; ticks 1;", "ticks 1;"), (FAR - 5, "ticks 5;", "ticks 6;"),
            (-FAR, "ticks 1; back 1;", "back 1;"), (5 - FAR, "back 5;", "back 6;"),
            (0, "repeat 1000000000000 { ticks 1000000000000000000; }",
             "repeat 1000000000000 { ticks 1000000000000000000; } ticks 1;"),
            (0, "repeat 1000000000000 { back 1000000000000000000; }",
             "repeat 1000000000000 { back 1000000000000000000; } back 1;"),
        ):
            state = (time,) + STATE[1:]
            self.assertLessEqual(abs(run_program(PLAN, state, right)[1][0]), FAR)
            with self.assertRaises(InvalidCount):
                run_program(PLAN, state, wrong)
            self.assertEqual(program_effect(PLAN, time, wrong)[0], PLAN)
            count_lefts(PLAN, state, wrong, 1)

    def test_the_time_in_between_has_no_limits(self):
        state = (FAR,) + STATE[1:]
        self.assertEqual(run_program(PLAN, state, f"repeat {MOST} {{ ticks {MOST}; }} repeat {MOST} {{ back {MOST}; }}"),
                         (PLAN, state))

    def test_any_time_is_given_to_program_effect(self):
        for time in (FAR * 10, -FAR * 10, 10 ** 5000):
            self.assertEqual(program_effect(SMALL, time, "ticks 4;"), (SMALL, 4, (2, 0, 1)))


class ErrorsTest(unittest.TestCase):
    def test_run_program(self):
        state = (FAR,) + STATE[1:]
        faults = FAULTS_OF_PLAN_AND_STATE + FAULTS_OF_PROGRAMS
        assert_errors_in_order(self, run_program, (PLAN, state, "back 1;"), faults)
        with self.assertRaises(ProgramSyntaxError):
            run_program(PLAN, state, "ticks 1; ticks")
        with self.assertRaises(ProgramError):
            run_program(PLAN, state, "ticks 1; call a;")

    def test_program_effect(self):
        faults = [(0, WRONG_PLAN, InvalidPlan)] + FAULTS_OF_PROGRAMS
        assert_errors_in_order(self, program_effect, (PLAN, 0, "ticks 1;"), faults)

    def test_count_lefts(self):
        faults = FAULTS_OF_PLAN_AND_STATE + FAULTS_OF_PROGRAMS + unknown_parcels(3)
        assert_errors_in_order(self, count_lefts, (PLAN, STATE, "ticks 1;", 5), faults)
        with self.assertRaises(UnknownParcel):
            count_lefts(ALONE, (0, (7,), ((),)), "", 1)

    def test_returned_lists_belong_to_the_caller(self):
        source = "repeat 3 { ticks 5; } ticks 1;"
        first = count_lefts(PLAN, STATE, source, 3)
        kept = list(first)
        first.clear()
        with self.assertRaises(InvalidState):
            count_lefts(PLAN, (), source, 3)
        self.assertEqual(count_lefts(PLAN, STATE, source, 3), kept)

    def test_kinds_of_values(self):
        plan, state = run_program(PLAN, STATE, "route 0: 1 rest; ticks 3;")
        self.assertEqual(fill(plan, state[0], parcels_of(state)), state)
        self.assertIs(type(plan), tuple)
        self.assertTrue(all(type(route) is tuple for route in plan[1]))
        plan, ticks, effect = program_effect(PLAN, 0, "ticks 3;")
        self.assertEqual([type(plan), type(ticks), type(effect)], [tuple, int, tuple])
        self.assertIs(type(count_lefts(PLAN, STATE, "", 1)), list)


if __name__ == "__main__":
    unittest.main()
