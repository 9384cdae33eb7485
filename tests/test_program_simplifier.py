"""Tests of simplified programs: point 23."""

import unittest
from random import Random

from programs import canonical, loose, number_of_statements, parts_of, random_program
from samples import MOST, PLAN, all_plans, parcels_of, scattered
from swapshelves.errors import ProgramError, ProgramSyntaxError
from swapshelves.program_printer import format_program
from swapshelves.program_runs import count_lefts, program_effect
from swapshelves.program_simplifier import simplify_program

NUMBERS = (0, 0, 1, 1, 2, 3, 7, 10 ** 9, MOST // 2, MOST // 2 + 1, MOST - 1, MOST)
ROUNDS = (0, 1, 1, 2, 2, 3, 10 ** 9, MOST // 2, MOST)
WIDE = ((0, 2, 1), ((0, 1, 2), (2, None, 1, 1), (1,)))
PLACES = (("carrier", 0), ("carrier", 1), ("shelf", 1, 0))
A, B, C = "carrier 0", "carrier 1", "shelf 1 0"
AB, BA, AC = f"swap {A}, {B};", f"swap {B}, {A};", f"swap {A}, {C};"


def signed(part):
    """Return the ticks of a statement, None if it is neither `ticks` nor `back`."""
    return {"ticks": 1, "back": -1}[part[0]] * part[1] if part[0] in ("ticks", "back") else None


def dense_program(seed):
    """Return a program by chance, in which much can be simplified."""
    source = Random(seed)
    names = []
    parts = []
    for name in ("a", "b", "c")[:source.randint(0, 3)]:
        parts.append(("define", name, dense_block(source, 2, list(names))))
        names.append(name)
    return parts + dense_block(source, 3, names)


def dense_block(source, depth, names):
    """Return a block by chance, in which much can be simplified."""
    found = []
    for _ in range(source.choice((0, 1, 1, 2, 3, 5, 8))):
        word = source.choice(("ticks", "back", "swap", "swap", "route", "repeat", "repeat", "call"))
        if word in ("ticks", "back"):
            found.append((word, source.choice(NUMBERS)))
        elif word == "swap":
            found.append(("swap",) + tuple(source.sample(PLACES, 2)))
        elif word == "route":
            found.append(("route", source.randrange(2), (source.choice((None, 0, 1)),)))
        elif word == "repeat" and depth > 0:
            found.append(("repeat", source.choice(ROUNDS), dense_block(source, depth - 1, names)))
        elif names:
            found.append(("call", source.choice(names)))
    return found


def called_names(parts):
    """Return the list of all names that are called in a program."""
    found = []
    for part in parts:
        if part[0] == "call":
            found.append(part[1])
        if part[0] in ("repeat", "define"):
            found.extend(called_names(part[2]))
    return found


class SimplifyProgramTest(unittest.TestCase):
    def assert_simple(self, parts):
        """Assert that a program has none of the forms that point 23 excludes."""
        for part in parts:
            if part[0] == "define":
                self.assertTrue(part[2])
                self.assertIn(part[1], called_names(parts))
                self.assert_simple_block(part[2])
        self.assert_simple_block([part for part in parts if part[0] != "define"])

    def assert_simple_block(self, block):
        for part in block:
            self.assertNotEqual(signed(part), 0)
            if part[0] == "repeat":
                self.assertGreater(part[1], 1)
                self.assertTrue(part[2])
                if len(part[2]) == 1:
                    inner = part[2][0]
                    self.assertNotIn(inner[0], ("swap", "route"))
                    if inner[0] in ("ticks", "back", "repeat"):
                        self.assertGreater(inner[1] * part[1], MOST)
                self.assert_simple_block(part[2])
        for one, other in zip(block, block[1:]):
            if signed(one) is not None and signed(other) is not None:
                self.assertGreater(abs(signed(one) + signed(other)), MOST)
            if one[0] == other[0] == "swap":
                self.assertNotEqual({one[1], one[2]}, {other[1], other[2]})
        carriers = set()
        for part in block:
            if part[0] == "route":
                self.assertNotIn(part[1], carriers)
                carriers.add(part[1])
            elif part[0] != "swap":
                carriers = set()

    def assert_same(self, plan, source, times=(0, 7, -10 ** 40)):
        """Assert that a program is simplified, and return the simplified one."""
        told = simplify_program(source)
        for time in times:
            self.assertEqual(program_effect(plan, time, told), program_effect(plan, time, source), source)
        state = scattered(plan, 3)
        for parcel in parcels_of(state)[:3]:
            self.assertEqual(count_lefts(plan, state, told, parcel), count_lefts(plan, state, source, parcel), source)
        self.assert_form(source, told)
        return told

    def assert_form(self, source, told):
        self.assertEqual(format_program(told), told)
        self.assertEqual(simplify_program(told), told)
        self.assert_simple(parts_of(told))
        before = number_of_statements(parts_of(format_program(source)))
        self.assertLessEqual(number_of_statements(parts_of(told)), before)

    def assert_told(self, source, *lines):
        self.assertEqual(self.assert_same(PLAN, source), "\n".join(lines))

    def test_example(self):
        source = "ticks 2; back 5; repeat 4 { ticks 1; } repeat 7 { swap carrier 0, carrier 1; }"
        self.assertEqual(simplify_program(source), "ticks 1;\nswap carrier 0, carrier 1;")

    def test_what_is_simple_already(self):
        for lines in (
            [], ["ticks 1;"], ["back 1;"], [AB], [AB, AC, AB], ["route 0: 1;", AB, "route 1: 0;", "ticks 2;", "route 0: 1;"],
            ["repeat 2 {", "  ticks 1;", "  " + AB, "}"], ["define a {", "  ticks 1;", "}", "repeat 3 {", "  call a;", "}"],
            ["define a {", "  ticks 1;", "}", "call a;", "call a;"], ["ticks 1;", AB, "back 1;", BA, "ticks 1;"],
            ["repeat 2 {", "  route 0: 1;", "  route 1: 0;", "}"], ["repeat 2 {", "  " + AB, "  " + AC, "}"],
        ):
            self.assert_told("\n".join(lines), *lines)

    def test_ticks_of_number_0(self):
        self.assert_told("ticks 0; back 0;")
        self.assert_told("ticks 0; ticks 3; back 0;", "ticks 3;")
        self.assert_told("repeat 3 { ticks 0; } define a { back 0; } call a;")

    def test_ticks_side_by_side(self):
        self.assert_told("ticks 2; ticks 3;", "ticks 5;")
        self.assert_told("ticks 2; back 3;", "back 1;")
        self.assert_told("back 2; back 3; ticks 1; back 4;", "back 8;")
        self.assert_told("back 2; ticks 2;")
        self.assert_told(f"ticks {MOST}; back {MOST};")
        self.assert_told(f"ticks {MOST - 1}; ticks 1;", f"ticks {MOST};")
        self.assert_told(f"back {MOST - 1}; back 1;", f"back {MOST};")
        self.assert_told(f"ticks {MOST}; ticks 1;", f"ticks {MOST};", "ticks 1;")
        self.assert_told(f"back 1; back {MOST};", "back 1;", f"back {MOST};")
        self.assert_told(f"ticks {MOST}; ticks {MOST}; back {MOST}; back 5;", f"ticks {MOST - 5};")
        self.assert_told(f"ticks {MOST}; ticks 5; back {MOST};", "ticks 5;")
        self.assert_told(f"back {MOST}; ticks 7; ticks {MOST};", "ticks 7;")
        self.assert_told(f"ticks {MOST}; ticks 5; back 6;", f"ticks {MOST - 1};")

    def test_sums_at_the_limit_and_beyond(self):
        half = MOST // 2
        for sign in ("ticks", "back"):
            self.assert_told(f"{sign} {half}; {sign} {half};", f"{sign} {MOST};")
            self.assert_told(f"{sign} {half}; {sign} {half + 1};", f"{sign} {half};", f"{sign} {half + 1};")

    def test_swaps_of_the_same_places(self):
        self.assert_told(AB + AB)
        self.assert_told(AB + BA)
        self.assert_told(AB + BA + AB, AB)
        self.assert_told(AB + AC + AC + BA)
        self.assert_told(AB + "ticks 0;" + AB)
        self.assert_told(AB + "ticks 3; repeat 0 { back 1; } back 3;" + AB)
        self.assert_told("ticks 2;" + AB + AC + AC + BA + "back 1;", "ticks 1;")
        self.assert_told(AC + AB + AC, AC, AB, AC)

    def test_routes_that_are_replaced(self):
        self.assert_told("route 0: 1; route 0: 0;", "route 0: 0;")
        self.assert_told("route 0: 1; route 0: 1;", "route 0: 1;")
        self.assert_told("route 0: 1; route 1: 0; route 0: 0;", "route 1: 0;", "route 0: 0;")
        self.assert_told(f"route 0: 1; {AB} route 0: 0;", AB, "route 0: 0;")
        self.assert_told("route 0: 1; ticks 0; route 0: 0;", "route 0: 0;")
        self.assert_told("route 0: 1; ticks 4; back 4; route 0: 0; repeat 0 {} route 0: rest;", "route 0: rest;")
        self.assert_told("route 0: 1; ticks 1; route 0: 0;", "route 0: 1;", "ticks 1;", "route 0: 0;")
        self.assert_told("define a { ticks 1; } route 0: 1; call a; route 0: 0;",
                         "define a {", "  ticks 1;", "}", "route 0: 1;", "call a;", "route 0: 0;")

    def test_swaps_between_routes_that_are_replaced(self):
        self.assert_told(f"{AB} route 0: 1; {AB} route 0: 0;", "route 0: 0;")
        self.assert_told(f"ticks 1; {AB} route 0: 1; {BA} route 0: 0; back 1;", "ticks 1;", "route 0: 0;", "back 1;")
        self.assert_told(f"{AC} {AB} route 0: 1; {BA} {AC} route 1: 0; route 0: rest;", "route 1: 0;", "route 0: rest;")
        self.assert_told(f"{AB} route 0: 1; {AC} {AC} route 1: 1; {AB} route 0: 0;",
                         AB, "route 1: 1;", AB, "route 0: 0;")

    def test_repeats_of_number_0_or_1_or_with_an_empty_block(self):
        self.assert_told("repeat 0 { ticks 1; route 0: 1; }")
        self.assert_told("repeat 5 {}")
        self.assert_told("repeat 1 {}")
        self.assert_told("repeat 1 { ticks 1; route 0: 1; }", "ticks 1;", "route 0: 1;")
        self.assert_told("ticks 2; repeat 1 { repeat 1 { ticks 1; } } ticks 3;", "ticks 6;")
        self.assert_told(f"{AB} repeat 1 {{ {AB} ticks 1; {AC} }} {AC}", "ticks 1;")
        self.assert_told("repeat 3 { repeat 4 { repeat 0 { ticks 1; } ticks 2; back 2; } }")

    def test_repeats_of_a_single_statement(self):
        self.assert_told("repeat 4 { ticks 3; }", "ticks 12;")
        self.assert_told("repeat 4 { back 3; }", "back 12;")
        self.assert_told(f"repeat 4 {{ {AB} }}")
        self.assert_told(f"repeat 5 {{ {AB} }}", AB)
        self.assert_told(f"repeat {MOST} {{ {AB} }} repeat {MOST - 1} {{ {AC} }}", AC)
        self.assert_told("repeat 5 { route 0: 1 rest; }", "route 0: 1 rest;")
        self.assert_told("repeat 5 { repeat 6 { ticks 1; route 0: 1; } }", "repeat 30 {", "  ticks 1;", "  route 0: 1;", "}")
        self.assert_told("define a { ticks 1; } repeat 5 { repeat 6 { call a; } }",
                         "define a {", "  ticks 1;", "}", "repeat 30 {", "  call a;", "}")

    def test_products_at_the_limit_and_beyond(self):
        half = MOST // 2
        for sign in ("ticks", "back"):
            self.assert_told(f"repeat 2 {{ {sign} {half}; }}", f"{sign} {MOST};")
            self.assert_told(f"repeat {half} {{ {sign} 2; }}", f"{sign} {MOST};")
            self.assert_told(f"repeat 2 {{ {sign} {half + 1}; }}", "repeat 2 {", f"  {sign} {half + 1};", "}")
            self.assert_told(f"repeat {MOST} {{ {sign} 1; }}", f"{sign} {MOST};")
            self.assert_told(f"repeat {MOST} {{ {sign} 2; }}", f"repeat {MOST} {{", f"  {sign} 2;", "}")
            # 10 ** 18 + 1 is 101 times 9900990099009901.
            self.assert_told(f"repeat 101 {{ {sign} 9900990099009901; }}", "repeat 101 {", f"  {sign} 9900990099009901;", "}")
            self.assert_told(f"repeat 101 {{ {sign} 9900990099009900; }}", f"{sign} 999999999999999900;")
        inner = "{ ticks 1; route 0: 1; }"
        self.assertEqual(self.assert_same(PLAN, f"repeat 2 {{ repeat {half} {inner} }}").count("repeat"), 1)
        self.assertEqual(self.assert_same(PLAN, f"repeat 2 {{ repeat {half + 1} {inner} }}").count("repeat"), 2)
        told = self.assert_same(PLAN, f"repeat 3 {{ repeat 2 {{ repeat {half} {inner} }} }}")
        self.assertEqual(told.split("\n")[:2], ["repeat 3 {", f"  repeat {MOST} {{"])

    def test_forms_that_come_about_by_another_simplification(self):
        self.assert_told(f"repeat 3 {{ {AB} ticks 2; back 2; }}", AB)
        self.assert_told(f"repeat 2 {{ {AB} repeat 7 {{ {AC} {AC} }} }}")
        self.assert_told("repeat 2 { route 0: 1; route 0: 0; }", "route 0: 0;")
        self.assert_told("repeat 2 { ticks 1; repeat 3 { back 5; } } ticks 28;")
        self.assert_told(f"repeat 3 {{ {AB} route 0: 1; {AB} route 0: 0; }} route 0: rest;", "route 0: rest;")
        self.assert_told("repeat 2 { repeat 3 { repeat 1 { ticks 1; } ticks 1; } }", "ticks 12;")
        self.assert_told("define a { repeat 0 { ticks 1; } } repeat 5 { ticks 2; call a; } ticks 1;", "ticks 11;")

    def test_definitions(self):
        self.assert_told("define a { ticks 1; }")
        self.assert_told("define a {} call a;")
        self.assert_told("define a { ticks 1; back 1; } define b { call a; } repeat 3 { call b; }")
        self.assert_told("define a { ticks 1; } define b { call a; } ticks 3;", "ticks 3;")
        self.assert_told("define a { ticks 1; } define b { call a; } repeat 0 { call b; } call a;",
                         "define a {", "  ticks 1;", "}", "call a;")
        self.assert_told("define b { ticks 1; } ticks 0; define c { ticks 2; } define a { call b; } call a;",
                         "define b {", "  ticks 1;", "}", "define a {", "  call b;", "}", "call a;")
        self.assert_told(f"define a {{ {AB} {BA} }} {AC} call a; {AC}")

    def test_random_programs(self):
        for seed in range(300):
            plan = all_plans()[seed % 30]
            self.assert_same(plan, loose(random_program(seed, plan, most=6), seed))

    def test_random_programs_in_which_much_can_be_simplified(self):
        for seed in range(1500):
            parts = dense_program(seed)
            self.assert_same((PLAN, WIDE)[seed % 2], canonical(parts), (seed,))

    def test_programs_that_fit_no_plan(self):
        number = "9" * 19
        source = f"swap carrier {number}, shelf {number} {number}; route {number}: {number} rest; ticks 1; back 1; route 7: 0;"
        told = f"swap carrier {number}, shelf {number} {number};\nroute {number}: {number} rest;\nroute 7: 0;"
        self.assertEqual(simplify_program(source), told)

    def test_long_and_deep_programs(self):
        self.assertEqual(simplify_program("repeat 2 { " * 100 + "ticks 1; back 1;" + "}" * 100), "")
        self.assertEqual(simplify_program("repeat 1 { " * 100 + "ticks 1;" + "}" * 100), "ticks 1;")
        self.assertEqual(simplify_program(f"{AB} ticks 1; " * 3000 + f"back 1; {AB} " * 3000), "")
        self.assertEqual(simplify_program("ticks 1;" * 5000), "ticks 5000;")
        self.assertEqual(simplify_program("".join(f"route 0: {at}; {AB}" for at in range(5001))), f"route 0: 5000;\n{AB}")

    def test_errors_in_their_order(self):
        with self.assertRaises(ProgramSyntaxError) as caught:
            simplify_program("call a; ticks 01;")
        self.assertEqual((caught.exception.row, caught.exception.column), (0, 14))
        with self.assertRaises(ProgramError) as caught:
            simplify_program("repeat 0 { call a; }")
        told = caught.exception
        self.assertEqual((told.reason, told.row, told.column), ("undefined", 0, 16))


if __name__ == "__main__":
    unittest.main()
