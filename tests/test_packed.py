"""Tests of plans, states and programs as bytes: point 25."""

import unittest
from random import Random

from programs import canonical, loose, plain, random_program
from samples import (
    ALONE, FAULTS_OF_PLAN_AND_STATE, IDLE, MOST, PLAN, STATE, WRONG_PLAN,
    all_plans, assert_errors_in_order, fill, parcels_of, scattered,
)
from swapshelves.errors import InvalidCount, InvalidPlan, ProgramError, ProgramSyntaxError
from swapshelves.packed import (
    decode_plan, decode_program, decode_state, encode_plan, encode_program, encode_state, pack_bytes, unpack_bytes,
)
from swapshelves.program_printer import format_program

FAR = 10 ** 30
SMALL = ((2,), ((0,),))
SMALL_STATE = (0, (1,), ((2, 3),))


def number_bytes(number):
    """Return the bytes of a number: its groups of seven bits are digits to the base of 128."""
    digits = [number % 128]
    while number >= 128:
        number = number // 128
        digits.append(number % 128)
    return [digit + 128 for digit in digits[:-1]] + digits[-1:]


def with_checksum(values):
    """Return bytes with their checksum behind them."""
    checksum = 7
    for value in values:
        checksum = (37 * checksum + value) % 65521
    return bytes(values) + bytes([checksum // 256, checksum % 256])


def plan_bytes(plan):
    """Return the bytes of a plan, as point 25 tells them."""
    sizes, routes = plan
    values = [80, len(sizes)] + list(sizes) + [len(routes)]
    for route in routes:
        values += [len(route)] + [0 if entry is None else entry + 1 for entry in route]
    return with_checksum(values)


def state_bytes(state):
    """Return the bytes of a state, as point 25 tells them."""
    time = state[0]
    values = [83] + number_bytes(2 * time if time >= 0 else 2 * abs(time) - 1)
    for parcel in parcels_of(state):
        values += number_bytes(parcel)
    return with_checksum(values)


def program_bytes(parts):
    """Return the bytes of a program, as point 25 tells them."""
    definitions = [part for part in parts if part[0] == "define"]
    names = [name for _, name, _ in definitions]
    values = [71] + number_bytes(len(definitions))
    for _, name, block in definitions:
        values += [len(name)] + [97 + "abcdefghijklmnopqrstuvwxyz".index(letter) for letter in name]
        values += block_bytes(block, names)
    return with_checksum(values + block_bytes([part for part in parts if part[0] != "define"], names))


def block_bytes(parts, names):
    """Return the bytes of a block."""
    values = number_bytes(len(parts))
    for part in parts:
        if part[0] in ("ticks", "back"):
            values += [116 if part[0] == "ticks" else 98] + number_bytes(part[1])
        elif part[0] == "swap":
            values += [115] + place_bytes(part[1]) + place_bytes(part[2])
        elif part[0] == "route":
            values += [114] + number_bytes(part[1]) + [len(part[2])]
            for entry in part[2]:
                values += [0] if entry is None else number_bytes(entry + 1)
        elif part[0] == "repeat":
            values += [108] + number_bytes(part[1]) + block_bytes(part[2], names)
        else:
            values += [99] + number_bytes(names.index(part[1]))
    return values


def place_bytes(place):
    """Return the bytes of a place."""
    values = [0] if place[0] == "carrier" else [1]
    for number in place[1:]:
        values += number_bytes(number)
    return values


class PackBytesTest(unittest.TestCase):
    def test_examples(self):
        self.assertEqual(unpack_bytes(pack_bytes([80, 1])), [80, 1])

    def test_all_bytes(self):
        numbers = list(range(256)) + [255, 0, 0, 128]
        self.assertEqual(pack_bytes(numbers), bytes(numbers))
        self.assertEqual(unpack_bytes(bytes(numbers)), numbers)
        self.assertEqual(pack_bytes([]), b"")
        self.assertEqual(unpack_bytes(b""), [])
        self.assertEqual(numbers, list(range(256)) + [255, 0, 0, 128])

    def test_integers_that_are_no_bytes(self):
        for wrong in (-1, 256, 257, 10 ** 5000, -10 ** 5000):
            for numbers in ([wrong], [1, wrong], [wrong, 2], [0] * 100 + [wrong]):
                with self.assertRaises(InvalidCount):
                    pack_bytes(numbers)

    def test_kinds_of_values(self):
        self.assertIs(type(pack_bytes([1])), bytes)
        self.assertIs(type(unpack_bytes(b"a")), list)
        for data in (encode_plan(PLAN), encode_state(PLAN, STATE), encode_program("")):
            self.assertIs(type(data), bytes)


class PlanTest(unittest.TestCase):
    def test_examples(self):
        self.assertEqual(unpack_bytes(encode_plan(SMALL)), [80, 1, 2, 1, 1, 1, 210, 48])

    def test_bytes_of_plans(self):
        for plan in all_plans():
            self.assertEqual(encode_plan(plan), plan_bytes(plan))
            self.assertEqual(decode_plan(encode_plan(plan)), plan)
        told = unpack_bytes(encode_plan(((1, 2), ((0, 1), (None, 1)))))
        self.assertEqual(told[:-2], [80, 2, 1, 2, 2, 2, 1, 2, 2, 0, 2])

    def test_the_largest_plan(self):
        plan = ((9,) * 12, ((11, None, 0, 11, 10, 9),) * 6)
        self.assertEqual(encode_plan(plan), plan_bytes(plan))
        self.assertEqual(decode_plan(encode_plan(plan)), plan)

    def test_kinds_of_values(self):
        sizes, routes = decode_plan(encode_plan(PLAN))
        self.assertEqual([type(part) for part in (sizes, routes) + routes], [tuple] * 4)

    def test_errors(self):
        with self.assertRaises(InvalidPlan) as caught:
            encode_plan(WRONG_PLAN)
        self.assertEqual((caught.exception.part, caught.exception.index), ("sizes", 1))


class StateTest(unittest.TestCase):
    def test_examples(self):
        self.assertEqual(unpack_bytes(encode_state(SMALL, SMALL_STATE)), [83, 0, 1, 2, 3, 148, 198])

    def test_bytes_of_states(self):
        for seed, plan in enumerate(all_plans()):
            source = Random(seed)
            for time in (0, 1, -1, FAR, -FAR, source.randint(-FAR, FAR)):
                parcels = source.sample(range(1, 1000), len(parcels_of(scattered(plan, 0))))
                state = fill(plan, time, parcels)
                self.assertEqual(encode_state(plan, state), state_bytes(state))
                self.assertEqual(decode_state(plan, encode_state(plan, state)), state)

    def test_times_at_the_limits_of_groups(self):
        times = [0, 63, 64, 8191, 8192, 128 ** 4 // 2 - 1, 128 ** 4 // 2, FAR, FAR - 1]
        for time in times + [-time for time in times] + [-time - 1 for time in times[:-2]]:
            state = (time, (1,), ((),))
            data = encode_state(ALONE, state)
            self.assertEqual(data, state_bytes(state))
            self.assertEqual(decode_state(ALONE, data), state)
        for time, told in ((1, [2]), (-1, [1]), (63, [126]), (64, [128, 1]), (-64, [127]), (-65, [129, 1]), (2, [4]), (-2, [3])):
            self.assertEqual(unpack_bytes(encode_state(ALONE, (time, (1,), ((),))))[1:-3], told)

    def test_parcels_at_the_limits_of_groups(self):
        state = (0, (127, 128), ((999,), (1, 129)))
        told = [83, 0, 127, 128, 1, 231, 7, 1, 129, 1]
        self.assertEqual(unpack_bytes(encode_state(PLAN, state))[:-2], told)
        self.assertEqual(decode_state(PLAN, encode_state(PLAN, state)), state)

    def test_errors_in_their_order(self):
        assert_errors_in_order(self, encode_state, (PLAN, STATE), FAULTS_OF_PLAN_AND_STATE)
        with self.assertRaises(InvalidPlan) as caught:
            decode_state(WRONG_PLAN, b"")
        self.assertEqual((caught.exception.part, caught.exception.index), ("sizes", 1))


class ProgramTest(unittest.TestCase):
    def test_examples(self):
        self.assertEqual(unpack_bytes(encode_program("ticks 300;")), [71, 0, 1, 116, 172, 2, 209, 232])
        self.assertEqual(decode_program(encode_program("repeat 2 { back 1; }")), "repeat 2 {\n  back 1;\n}")

    def test_the_empty_program(self):
        self.assertEqual(encode_program(""), with_checksum([71, 0, 0]))
        self.assertEqual(decode_program(with_checksum([71, 0, 0])), "")

    def test_each_statement(self):
        for source, values in (
            ("ticks 0;", [0, 1, 116, 0]), ("back 127;", [0, 1, 98, 127]), ("ticks 128;", [0, 1, 116, 128, 1]),
            ("back 16383;", [0, 1, 98, 255, 127]), ("ticks 16384;", [0, 1, 116, 128, 128, 1]),
            ("swap carrier 0, shelf 1 2;", [0, 1, 115, 0, 0, 1, 1, 2]), ("swap shelf 200 0, carrier 3;", [0, 1, 115, 1, 200, 1, 0, 0, 3]),
            ("route 5: 0 rest 127;", [0, 1, 114, 5, 3, 1, 0, 128, 1]), ("repeat 2 {}", [0, 1, 108, 2, 0]),
            ("repeat 2 { ticks 1; } back 1;", [0, 2, 108, 2, 1, 116, 1, 98, 1]),
            ("define az {} call az;", [1, 2, 97, 122, 0, 1, 99, 0]),
            ("ticks 1; define a {} define b { call a; } call b;", [2, 1, 97, 0, 1, 98, 1, 99, 0, 2, 116, 1, 99, 1]),
        ):
            self.assertEqual(encode_program(source), with_checksum([71] + values))
            self.assertEqual(decode_program(with_checksum([71] + values)), format_program(source))

    def test_random_programs(self):
        for seed in range(300):
            plan = all_plans()[seed % 30]
            parts = random_program(seed, plan, most=6, ticks=10 ** (seed % 19), rounds=10 ** (seed % 7))
            data = encode_program(loose(parts, seed))
            self.assertEqual(data, program_bytes(parts))
            self.assertEqual(decode_program(data), canonical(parts))

    def test_layout_changes_no_byte(self):
        for seed in range(60):
            plan = all_plans()[seed % 30]
            parts = random_program(seed, plan)
            data = encode_program(plain(parts))
            for layout in range(3):
                self.assertEqual(encode_program(loose(parts, layout)), data)
            self.assertEqual(encode_program(canonical(parts)), data)
            self.assertEqual(encode_program(decode_program(data)), data)

    def test_numbers_at_their_limits(self):
        most = "9" * 19
        for source in (f"ticks {MOST}; back {MOST}; repeat {MOST} {{}}", f"route {most}: {most} rest;",
                       f"swap carrier {most}, shelf {most} {most};", "define abcdefghij {} define z {} call abcdefghij;"):
            self.assertEqual(decode_program(encode_program(source)), format_program(source))
        told = encode_program(f"route {most}: {most};")
        self.assertEqual(told, with_checksum([71, 0, 1, 114] + number_bytes(10 ** 19 - 1) + [1] + number_bytes(10 ** 19)))

    def test_many_statements_and_definitions(self):
        source = "ticks 1;\n" * 200
        data = encode_program(source)
        self.assertEqual(unpack_bytes(data)[:4], [71, 0, 200, 1])
        self.assertEqual(decode_program(data), source.strip("\n"))
        names = ["x" + "abcdefghij"[at // 100] + "abcdefghij"[at // 10 % 10] + "abcdefghij"[at % 10] for at in range(150)]
        source = "".join(f"define {name} {{}}\n" for name in names) + "\n".join(f"call {name};" for name in names)
        data = encode_program(source)
        self.assertEqual(data, program_bytes([("define", name, []) for name in names] + [("call", name) for name in names]))
        self.assertEqual(decode_program(data), source)

    def test_deep_programs(self):
        for depth in (20, 300):
            source = "repeat 2 {" * depth + "}" * depth
            data = with_checksum([71, 0, 1] + [108, 2, 1] * (depth - 1) + [108, 2, 0])
            self.assertEqual(encode_program(source), data)
            self.assertEqual(decode_program(data), format_program(source))

    def test_errors_in_their_order(self):
        with self.assertRaises(ProgramSyntaxError) as caught:
            encode_program("call a; ticks 01;")
        self.assertEqual((caught.exception.row, caught.exception.column), (0, 14))
        with self.assertRaises(ProgramError) as caught:
            encode_program("repeat 0 { call a; }")
        self.assertEqual((caught.exception.reason, caught.exception.row, caught.exception.column), ("undefined", 0, 16))
        # What only a plan could refuse is encoded.
        self.assertEqual(decode_program(encode_program("route 9: 99;")), "route 9: 99;")


class ChecksumTest(unittest.TestCase):
    def test_the_high_byte_comes_first(self):
        for data in (encode_plan(PLAN), encode_state(PLAN, STATE), encode_program("ticks 5;"), encode_plan(IDLE)):
            self.assertEqual(data, with_checksum(list(data[:-2])))
            self.assertNotEqual(data[-2], data[-1])


if __name__ == "__main__":
    unittest.main()
