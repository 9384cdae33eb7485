"""Tests of programs in canonical form: point 22."""

import unittest

from programs import canonical, loose, plain, random_program
from samples import all_plans
from swapshelves.errors import ProgramError, ProgramSyntaxError
from swapshelves.program_printer import format_program
from swapshelves.program_runs import program_effect


class FormatProgramTest(unittest.TestCase):
    def test_examples(self):
        told = format_program("repeat 3{ticks 1;}define a{}route 0:rest 1;#x")
        self.assertEqual(told, "define a {}\nrepeat 3 {\n  ticks 1;\n}\nroute 0: rest 1;")
        with self.assertRaises(ProgramSyntaxError) as caught:
            format_program("ticks 01;")
        self.assertEqual((caught.exception.row, caught.exception.column), (0, 6))
        with self.assertRaises(ProgramError) as caught:
            format_program("call a;")
        told = caught.exception
        self.assertEqual((told.reason, told.row, told.column), ("undefined", 0, 5))

    def test_each_statement(self):
        for source, told in (
            ("ticks\n0 ;", "ticks 0;"), ("back 1000000000000000000;", "back 1000000000000000000;"),
            ("swap carrier 0,carrier 9999999999999999999 ;", "swap carrier 0, carrier 9999999999999999999;"),
            ("swap shelf 3 4 , carrier 1;", "swap shelf 3 4, carrier 1;"), ("swap shelf 0 1,shelf 0 2;", "swap shelf 0 1, shelf 0 2;"),
            ("route 3 :rest;", "route 3: rest;"), ("route 0:1 rest 2 3 rest 4;", "route 0: 1 rest 2 3 rest 4;"),
            ("repeat 0{}", "repeat 0 {}"), ("repeat 2 { ticks 1; }", "repeat 2 {\n  ticks 1;\n}"),
            ("define a{}call a;", "define a {}\ncall a;"), ("define a{back 1;}", "define a {\n  back 1;\n}"),
        ):
            self.assertEqual(format_program(source), told)

    def test_empty_programs(self):
        for source in ("", " ", "\n\n", "# ticks 1;", "#\n  #\n"):
            self.assertEqual(format_program(source), "")

    def test_empty_blocks(self):
        told = format_program("repeat 1{repeat 2{}repeat 3{repeat 4{}}}define a{repeat 5{}}")
        lines = ["define a {", "  repeat 5 {}", "}", "repeat 1 {", "  repeat 2 {}", "  repeat 3 {",
                 "    repeat 4 {}", "  }", "}"]
        self.assertEqual(told, "\n".join(lines))

    def test_definitions_behind_statements(self):
        source = "ticks 1; define b { ticks 2; } call b; define a { call b; } back 3; call a; define c {}"
        lines = ["define b {", "  ticks 2;", "}", "define a {", "  call b;", "}", "define c {}",
                 "ticks 1;", "call b;", "back 3;", "call a;"]
        self.assertEqual(format_program(source), "\n".join(lines))

    def test_random_programs_with_random_layout(self):
        for seed in range(300):
            plan = all_plans()[seed % 30]
            parts = random_program(seed, plan)
            told = canonical(parts)
            self.assertEqual(format_program(loose(parts, seed)), told)
            self.assertEqual(format_program(plain(parts)), told)
            self.assertEqual(format_program(told), told)

    def test_it_does_the_same(self):
        for seed, plan in enumerate(all_plans()):
            source = loose(random_program(seed + 60, plan), seed)
            self.assertEqual(program_effect(plan, seed, format_program(source)), program_effect(plan, seed, source))

    def test_form(self):
        for seed in range(40):
            plan = all_plans()[seed % 30]
            lines = format_program(loose(random_program(seed, plan, most=6), seed)).split("\n")
            if lines == [""]:
                continue
            indent = 0
            for line in lines:
                if line.endswith("}") and not line.endswith("{}"):
                    indent -= 2
                    self.assertEqual(line, " " * indent + "}")
                text = line.strip(" ")
                self.assertEqual(line, " " * indent + text)
                self.assertNotIn("  ", text)
                self.assertRegex(text, r"^([a-z].*(;|[^ ] \{|[^ ] \{\})|\})$")
                if line.endswith("{"):
                    indent += 2
            self.assertEqual(indent, 0)


if __name__ == "__main__":
    unittest.main()
