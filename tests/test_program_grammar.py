"""Tests of the grammar of programs: point 17."""

import unittest

from programs import calls_with_plan, calls_without_plan, canonical, loose, plain, random_program, words_of
from samples import BUSY, all_plans, scattered
from swapshelves.errors import ProgramSyntaxError
from swapshelves.program_printer import format_program
from swapshelves.program_runs import run_program

KEYWORDS = ("ticks", "back", "swap", "route", "repeat", "call", "define", "carrier", "shelf", "rest")
NUMBER = "9" * 19
WORD = "abcdefghij"

RIGHT = (
    "", " ", "\n\n", "#", "# no { program\n", "ticks 0;", "back 7;", "ticks1;", "ticks\n1\n;", "ticks 1 ;",
    "swap carrier 0, carrier 1;", "swap carrier 0,shelf 1 0;", "swap shelf 0 0,carrier1;", "swap shelf 1 0, shelf 1 1;",
    "route 0: rest;", "route 1:0 1 rest 0;", "route 0:rest rest rest;", "route 0:0rest1;", "repeat 0 {}", "repeat 2{}",
    "repeat 1 { ticks 1; }", "repeat 2 { repeat 3 { } back 1; }", "define a {}", "define a { ticks 1; } call a;",
    "ticks 1; define a {} ticks 2; call a;", f"define {WORD} {{}} call {WORD};", "define x{}define y{call x;}call y;",
    "define tick {} define backs {} define swapx {} define res {} call res;", "repeat 1#}\n{}", "ticks 1#0\n;",
    "ticks 1;# % \t is in a comment",
)

# What stands here begins no token wherever it stands.
STRANGE = ("%", "\t", "\r", "A", "Z", "_", "-", "+", ".", "!", "~", "(", ")", "[", "]", '"', "'", "\\", "/", "*", "=",
           "<", ">", "@", "$", "&", "^", "`", "|", "?", "\x00", "\x7f", "\xa0", "\u00e9", "\u0663", "\u2028")


class GrammarTest(unittest.TestCase):
    def assert_refused(self, source, row, column):
        for call in calls_with_plan(source) + calls_without_plan(source):
            with self.assertRaises(ProgramSyntaxError, msg=source) as caught:
                call()
            self.assertEqual((caught.exception.row, caught.exception.column), (row, column), source)

    def assert_refused_in_all_layouts(self, words, at):
        """Assert that the token with an index is refused, wherever it stands."""
        self.assert_refused(" ".join(words), 0, len("".join(word + " " for word in words[:at])))
        self.assert_refused("\n".join(words), at, 0)
        self.assert_refused("\n  ".join(words), at, 2 if at else 0)

    def test_right_programs(self):
        for source in RIGHT:
            format_program(source)

    def test_right_programs_of_every_function(self):
        for source in RIGHT:
            for call in calls_with_plan(source) + calls_without_plan(source):
                call()

    def test_random_programs_in_any_layout(self):
        for seed, plan in enumerate(all_plans() * 4):
            parts = random_program(seed, plan)
            for source in (plain(parts), loose(parts, seed), canonical(parts)):
                self.assertEqual(format_program(source), canonical(parts))

    def test_without_any_gap_that_is_not_needed(self):
        source = "define a{ticks 1;}repeat 2{call a;swap carrier 0,shelf 1 0;route 1:0 1rest 0;back 3;}"
        told = "define a {\n  ticks 1;\n}\nrepeat 2 {\n  call a;\n  swap carrier 0, shelf 1 0;\n"
        self.assertEqual(format_program(source), told + "  route 1: 0 1 rest 0;\n  back 3;\n}")
        self.assertEqual(format_program("ticks1;back2;repeat3{}"), "ticks 1;\nback 2;\nrepeat 3 {}")

    def test_strange_characters(self):
        for sign in STRANGE:
            for before, behind in (("", ""), ("ticks 1;\n ", ""), ("ticks ", "1;"), ("repeat 2 {", "}"), ("x", "x")):
                source = before + sign + behind
                rows = before.split("\n")
                self.assert_refused(source, len(rows) - 1, len(rows[-1]))

    def test_words_of_ten_letters_at_most(self):
        format_program(f"define {WORD} {{ }}")
        self.assert_refused(f"define {WORD}k {{ }}", 0, 7)
        self.assert_refused(f"ticks 1;\n\n  call {WORD * 30};", 2, 7)
        self.assert_refused("repeatrepeat 3 {}", 0, 0)

    def test_numbers_of_nineteen_digits_at_most(self):
        self.assertEqual(format_program(f"route {NUMBER}: {NUMBER};"), f"route {NUMBER}: {NUMBER};")
        self.assertEqual(format_program(f"swap carrier {NUMBER}, shelf 0 {NUMBER};"),
                         f"swap carrier {NUMBER}, shelf 0 {NUMBER};")
        self.assert_refused(f"route {NUMBER}9: 0;", 0, 6)
        self.assert_refused("ticks 1" + "0" * 5000 + ";", 0, 6)

    def test_leading_zeros(self):
        format_program("ticks 0; ticks 10; ticks 100;")
        for number in ("00", "01", "000", "0123456789", "00000000000000000000"):
            self.assert_refused(f"ticks 0;\nback {number};", 1, 5)
        self.assert_refused("swap shelf 0 01, carrier 0;", 0, 13)

    def test_what_is_no_token_comes_before_the_grammar(self):
        for wrong in ("%", "01", WORD + "k", NUMBER + "0", "T"):
            for before in ("; ; ;\n", "} ticks\n", "define define\n", "ticks\n", "call b;\n", "ticks 9999999999999999999;\n"):
                self.assert_refused(before + " " + wrong, 1, 1)
        self.assert_refused("define { T 00 " + WORD + "k %", 0, 9)

    def test_comments(self):
        self.assertEqual(format_program("# T % 01\nticks # 2; back\n3 # ;\n; # }"), "ticks 3;")
        self.assertEqual(format_program("#ticks 3;"), "")
        self.assertEqual(format_program("ticks 3;#\n#\n##ticks 4;\nback 5;"), "ticks 3;\nback 5;")
        self.assert_refused("# ticks 1;\nticks #2;", 2, 0)
        self.assert_refused("# 1\n#\n % #", 2, 1)

    def test_rows_and_columns(self):
        self.assert_refused("}", 0, 0)
        self.assert_refused("\n\n   }", 2, 3)
        self.assert_refused("ticks 1; }", 0, 9)
        self.assert_refused("ticks 1;}", 0, 8)
        self.assert_refused("ticks\n1\n}", 2, 0)

    def test_programs_that_end_too_early(self):
        whole = words_of([
            ("define", "a", [("ticks", 3)]), ("repeat", 2, [("swap", ("carrier", 0), ("shelf", 1, 0)), ("call", "a")]),
            ("route", 1, (0, None)), ("back", 1),
        ])
        ends = {0, 7, 22, 28, len(whole)}
        for many in range(len(whole) + 1):
            source = " ".join(whole[:many])
            if many in ends:
                format_program(source)
                continue
            self.assert_refused(source, 1, 0)
            self.assert_refused(source + "   # ;", 1, 0)
            self.assert_refused(source + "\n", 2, 0)
            self.assert_refused("\n".join(whole[:many]), many, 0)
            self.assert_refused("\n\n" + source + " \n  #;\n", 5, 0)

    def test_statements_that_do_not_fit(self):
        for words, at in (
            ("ticks ;", 1), ("ticks a ;", 1), ("ticks 1", 2), ("ticks 1 2 ;", 2), ("ticks 1 , ;", 2), ("ticks 1 : ;", 2),
            ("ticks { 1 ; }", 1), ("back ;", 1), ("back ticks 1 ;", 1), ("back 1 }", 2),
            ("swap 0 , 1 ;", 1), ("swap carrier , carrier 1 ;", 2), ("swap carrier 0 carrier 1 ;", 3),
            ("swap carrier 0 1 , carrier 1 ;", 3), ("swap shelf 0 , carrier 1 ;", 3), ("swap shelf 0 0 0 , carrier 1 ;", 4),
            ("swap carrier 0 , ;", 4), ("swap carrier 0 , rest ;", 4), ("swap carrier 0 , carrier 1", 6),
            ("swap carrier 0 , carrier 1 , carrier 2 ;", 6), ("swap carrier 0 , shelf 1 ;", 6), ("swap a , b ;", 1),
            ("route : 0 ;", 1), ("route 0 0 ;", 2), ("route 0 : ;", 3), ("route 0 : 0 , 1 ;", 4), ("route 0 : none ;", 3),
            ("route 0 : rest 0", 5), ("route 0 : shelf ;", 3), ("route carrier 0 : 0 ;", 1), ("route rest : 0 ;", 1),
            ("route 0 : 0 : ;", 4), ("route 0 ; 0 ;", 2), ("route 0 : 0 }", 4),
            ("repeat { }", 1), ("repeat a { }", 1), ("repeat 2 ticks 1 ;", 2), ("repeat 2 ;", 2), ("repeat 2 { } ;", 4),
            ("repeat 2 { ; }", 3), ("repeat 2 { a }", 3), ("repeat 2 { define a { } }", 3), ("repeat 2 { } }", 4),
            ("call ;", 1), ("call 1 ;", 1), ("call a", 2), ("call a a ;", 2), ("call a { }", 2),
            ("define { }", 1), ("define 1 { }", 1), ("define a ;", 2), ("define a a { }", 2), ("define a { } ;", 4),
            ("define a { define b { } }", 3), ("define a { repeat 1 { define b { } } }", 6), ("define a { } }", 4),
            ("a ;", 0), ("1 ;", 0), ("; ", 0), (", ", 0), (": ", 0), ("{ }", 0), ("rest ;", 0), ("carrier 0 ;", 0),
            ("shelf 0 0 ;", 0), ("ticks 1 ; 2 ;", 3), ("ticks 1 ; a", 3),
        ):
            tokens = words.split()
            if at < len(tokens):
                self.assert_refused_in_all_layouts(tokens, at)
            else:
                self.assert_refused(words, 1, 0)

    def test_the_first_token_that_does_not_fit_counts(self):
        self.assert_refused("ticks ticks 1; ; }", 0, 6)
        self.assert_refused("ticks 1;\nback back;\n}", 1, 5)

    def test_keywords_are_no_names(self):
        for word in KEYWORDS:
            self.assert_refused_in_all_layouts(["define", word, "{", "}"], 1)
            self.assert_refused_in_all_layouts(["call", word, ";"], 1)
            if len(word) < 10:
                name = word + "s"
                self.assertEqual(format_program(f"define {name} {{}} call {name};"), f"define {name} {{}}\ncall {name};")
            name = word[:-1]
            self.assertEqual(format_program(f"define {name} {{}} call {name};"), f"define {name} {{}}\ncall {name};")

    def test_deep_and_long_programs(self):
        for depth in (20, 25, 300):
            source = "repeat 1 {" * depth + "ticks 1;" + "}" * depth
            self.assertEqual(format_program(source).count("\n"), 2 * depth)
            self.assertEqual(run_program(BUSY, scattered(BUSY, 6), source)[1][0], 7)
            self.assert_refused(source[:-1], 1, 0)
            self.assert_refused(source + "}", 0, len(source))
        source = "ticks 1;\n" * 5000
        self.assertEqual(format_program(source), source.strip("\n"))
        self.assert_refused(source + "ticks", 5001, 0)


if __name__ == "__main__":
    unittest.main()
