"""Tests of programs that undo other programs: point 21."""

import unittest

from programs import Run, loose, parts_of, plain, random_program
from samples import (
    ALONE, BUSY, HANDED_ON, MOST, PLAN, STATE, WRONG_PLAN,
    all_plans, assert_errors_in_order, parcels_of, scattered,
)
from swapshelves.effects import compose, invert
from swapshelves.errors import InvalidPlan, ProgramError, ProgramSyntaxError
from swapshelves.plans import places
from swapshelves.program_inversion import invert_program
from swapshelves.program_printer import format_program
from swapshelves.program_runs import count_lefts, program_effect, run_program

SMALL = ((2,), ((0,),))
SMALL_STATE = (0, (1,), ((2, 3),))


class InvertProgramTest(unittest.TestCase):
    def assert_undone(self, plan, state, source):
        """Assert that the inverse leads back, and that the lefts are the negative ones."""
        inverse = invert_program(plan, source)
        later, moved = run_program(plan, state, source)
        self.assertEqual(run_program(later, moved, inverse), (plan, state), source)
        for parcel in parcels_of(state)[::3]:
            undone = [-many for many in count_lefts(plan, state, source, parcel)]
            self.assertEqual(count_lefts(later, moved, inverse, parcel), undone, source)
        self.assert_effect_undone(plan, state[0], source)
        both = source + "\n" + inverse
        self.assertEqual(run_program(plan, state, both), (plan, state), source)
        for parcel in parcels_of(state)[::3]:
            self.assertEqual(count_lefts(plan, state, both, parcel), [0] * len(plan[0]))

    def assert_effect_undone(self, plan, time, source):
        """Assert the same for the effect at any time, however far away."""
        inverse = invert_program(plan, source)
        later, ticks, effect = program_effect(plan, time, source)
        self.assertEqual(program_effect(later, time + ticks, inverse), (plan, -ticks, invert(effect)), source)

    def test_example(self):
        source = "repeat 9 { ticks 2; route 0: rest 0; swap carrier 0, shelf 0 1; }"
        later, moved = run_program(SMALL, SMALL_STATE, source)
        told = run_program(later, moved, invert_program(SMALL, source))
        self.assertEqual(told, (((2,), ((0,),)), (0, (1,), ((2, 3),))))

    def test_single_statements(self):
        for source in (
            "", "ticks 0;", "ticks 5;", "back 7;", f"ticks {MOST};", f"back {MOST};", "swap carrier 0, carrier 1;",
            "swap shelf 1 0, shelf 1 1;", "route 0: rest;", "route 1: 0 1 rest 0 1 rest;", "repeat 0 { route 0: rest; }",
            "repeat 1 { ticks 3; }", f"repeat {MOST} {{ ticks 3; }}", "repeat 4 {}", "define a { ticks 3; }",
            "define a { route 0: 0; ticks 3; } call a;", "define a {} call a;",
        ):
            for time in (0, 17, -5):
                self.assert_undone(PLAN, (time,) + STATE[1:], source)

    def test_statements_one_behind_the_other(self):
        for source in (
            "ticks 3; swap carrier 0, shelf 1 0; back 5;", "ticks 3; route 0: 1; ticks 5; route 0: 0; ticks 7;",
            "route 0: 1; route 0: rest; route 1: 0 1 rest; ticks 4; route 1: 1;", "route 0: 1; ticks 1; swap carrier 0, carrier 1;",
        ):
            self.assert_undone(PLAN, STATE, source)

    def test_routes_within_loops(self):
        for rounds in (1, 2, 3, 61, MOST):
            for block in (
                "ticks 1; route 0: 1;", "route 0: 1; ticks 1;", "ticks 1; route 0: 0 1;", "route 0: 1; ticks 1; route 0: 0 1; ticks 2;",
                "ticks 1; repeat 2 { ticks 1; route 1: 0; swap carrier 0, shelf 1 0; } route 0: 1 1 0; back 4;",
            ):
                self.assert_undone(PLAN, STATE, f"repeat {rounds} {{ {block} }}")
                self.assert_undone(PLAN, STATE, f"repeat 3 {{ repeat {rounds} {{ {block} }} ticks 1; route 0: rest 0; }}")

    def test_definitions_called_by_several_routes(self):
        source = """define a { ticks 5; route 0: rest 1; } define b { call a; route 1: 0; call a; }
        call b; route 0: 1 0 1; call a; call b; repeat 5 { call b; route 0: 0; ticks 1; } call a;"""
        self.assert_undone(PLAN, STATE, source)

    def test_names_that_the_program_has_already(self):
        names = [first + second for first in ("x", "") for second in "abcdefghijklmnopqrstuvwxyz"] + ["xba", "xbb", "x"]
        source = "".join(f"define {name} {{ ticks 1; route 0: 1; }} " for name in dict.fromkeys(names))
        source += "".join(f"call {name}; route 0: 0 {at % 2}; " for at, name in enumerate(names))
        self.assert_undone(PLAN, STATE, source)

    def test_random_programs(self):
        for seed in range(300):
            plan = all_plans()[seed % 30]
            self.assert_undone(plan, scattered(plan, seed % 99 - 49), loose(random_program(seed, plan), seed))

    def test_random_programs_near(self):
        for seed in range(60):
            plan = (PLAN, SMALL, HANDED_ON, BUSY)[seed % 4]
            parts = random_program(seed + 70, plan, rounds=4)
            state = scattered(plan, seed)
            run = Run(plan, state, parts)
            back = Run(run.plan, run.state, parts_of(format_program(invert_program(plan, plain(parts)))))
            self.assertEqual((back.plan, back.state), (plan, state))
            for parcel in parcels_of(state):
                self.assertEqual(back.lefts[parcel], [-many for many in run.lefts[parcel]])

    def test_random_programs_far(self):
        for seed in range(80):
            plan = all_plans()[seed % 30]
            parts = random_program(seed + 900, plan)
            source = loose(parts, seed).replace("ticks 1;", f"ticks {MOST};").replace("back 3;", f"back {MOST - 1};")
            self.assert_effect_undone(plan, 10 ** 50 + seed, f"{source} repeat {MOST} {{ ticks 7; }}")
            self.assert_effect_undone(plan, seed - 10 ** 50, source)

    def test_twice_inverted(self):
        for seed in range(60):
            plan = all_plans()[seed % 30]
            source = loose(random_program(seed + 300, plan), seed)
            later, ticks, effect = program_effect(plan, seed, source)
            twice = invert_program(later, invert_program(plan, source))
            self.assertEqual(program_effect(plan, seed, twice), (later, ticks, effect))

    def test_deep_loops_that_change_routes(self):
        source = "ticks 7; swap carrier 0, shelf 1 0;"
        for depth in range(20):
            routes = f"route {depth % 2}: {depth % 3 % 2} {'rest ' * (depth % 4)}1;"
            source = f"repeat {MOST - depth} {{ ticks 1; {routes} {source} back {depth}; }}"
        inverse = invert_program(PLAN, source)
        self.assertLess(len(inverse), 100000)
        later, ticks, effect = program_effect(PLAN, 5, source)
        back = program_effect(later, 5 + ticks, inverse)
        self.assertEqual(back, (PLAN, -ticks, invert(effect)))
        self.assertEqual(compose(effect, back[2]), tuple(range(len(places(PLAN)))))

    def test_many_definitions(self):
        names = ["z" + "".join("abcdefghij"[int(digit)] for digit in str(number)) for number in range(1000)]
        source = f"define {names[0]} {{ ticks 1; route 0: 1 rest; }}\n"
        for before, name in zip(names, names[1:]):
            source += f"define {name} {{ call {before}; call {before}; }}\n"
        self.assert_effect_undone(PLAN, 3, source + f"call {names[-1]};")

    def test_it_depends_on_the_plan(self):
        for plan in (PLAN, ((1, 2), ((1,), (None, 0))), ((1, 2), ((None,), (1,)))):
            self.assert_undone(plan, scattered(plan, 2), "ticks 5; route 0: 1 0; ticks 5; route 1: 0; back 3;")

    def test_errors_in_their_order(self):
        faults = [(0, WRONG_PLAN, InvalidPlan), (1, "ticks", ProgramSyntaxError), (1, "route 2: 0;", ProgramError)]
        assert_errors_in_order(self, invert_program, (PLAN, "ticks 1;"), faults)
        with self.assertRaises(ProgramError) as caught:
            invert_program(ALONE, "swap carrier 0, shelf 0 0;")
        self.assertEqual(caught.exception.reason, "place")


if __name__ == "__main__":
    unittest.main()
