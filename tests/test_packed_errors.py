"""Tests of data that encode nothing: point 26."""

import unittest
from random import Random

from programs import loose, random_program
from samples import ALONE, BUSY, MOST, PLAN, STATE, WRONG_PLAN, all_plans, scattered
from test_packed import number_bytes, with_checksum
from swapshelves.errors import InvalidData, InvalidPlan
from swapshelves.packed import (
    decode_plan, decode_program, decode_state, encode_plan, encode_program, encode_state, pack_bytes,
)

FAR = 10 ** 30
MANY = 10 ** 19
KEYWORDS = ("ticks", "back", "swap", "route", "repeat", "call", "define", "carrier", "shelf", "rest")

# A stroke in these lists stands before the byte at whose offset the data are refused.
HERE = "|"


def letters(name):
    """Return the bytes of a name, its length first."""
    return [len(name)] + [ord(letter) for letter in name]


def split(values):
    """Return (values without the stroke, its index)."""
    at = values.index(HERE)
    return values[:at] + values[at + 1:], at


def statement(*values):
    """Return the bytes of a program with a single statement."""
    return [71, 0, 1, *values]


PLANS = (
    [HERE], [HERE, 0], [HERE, 83, 1, 2], [HERE, 71, 0, 0], [HERE, 255],
    [80, HERE, 0, 1], [80, HERE, 13, 1], [80, HERE, 128, 1], [80, HERE, 255], [80, HERE],
    [80, 1, HERE, 10, 1, 1, 1], [80, 2, 9, HERE, 255, 1, 1, 1], [80, 2, 9, HERE], [80, 12] + [9] * 11 + [HERE, 10],
    [80, 1, 2, HERE, 0], [80, 1, 2, HERE, 7], [80, 1, 2, HERE, 80], [80, 1, 2, HERE],
    [80, 1, 2, 1, HERE, 0, 1], [80, 1, 2, 1, HERE, 7, 1, 1], [80, 1, 2, 2, 1, 1, HERE, 0], [80, 1, 2, 1, HERE],
    [80, 1, 2, 1, 1, HERE, 2], [80, 3, 0, 0, 0, 1, 6, 3, 2, 1, 0, 0, HERE, 4], [80, 2, 0, 0, 1, 2, 0, HERE, 3], [80, 2, 0, 0, 1, 2, 0, HERE],
    [80, 1, 2, 1, 1, 1, HERE], [80, 1, 2, 1, 1, 1, HERE, 211, 48], [80, 1, 2, 1, 1, 1, HERE, 48, 210],
    [80, 1, 2, 1, 1, 1, 210, HERE], [80, 1, 2, 1, 1, 1, 210, HERE, 49], [80, 1, 2, 1, 1, 1, 210, HERE, 210],
    [80, 1, 2, 1, 1, 1, 210, 48, HERE, 0], [80, 1, 2, 1, 1, 1, 210, 48, HERE, 210, 48],
)

# States of PLAN, which has five places.
STATES = (
    [HERE], [HERE, 80, 0], [HERE, 71, 0, 0], [83, HERE], [83, 128, HERE], [83, 128, HERE, 0, 1, 2], [83, 255, 255, HERE, 0, 1, 2],
    [83, 128, 128, 128, HERE], [83] + [255] * 30 + [HERE], [83] + [255] * 30 + [HERE, 0],
    [83, HERE] + number_bytes(2 * FAR + 1), [83, HERE] + number_bytes(2 * FAR + 2), [83, HERE] + [255] * 50 + [1],
    [83, HERE] + number_bytes(2 * FAR + 1) + [0, 0], [83] + number_bytes(2 * FAR) + [HERE, 0, 1], [83] + number_bytes(2 * FAR - 1) + [HERE, 0],
    [83, 0, HERE], [83, 0, HERE, 0], [83, 0, 1, HERE, 0], [83, 0, 1, 2, HERE] + number_bytes(1000), [83, 0, HERE, 255, 255, 255, 127],
    [83, 0, 1, 128, HERE, 0], [83, 0, 1, 129, HERE, 0], [83, 0, 1, 231, HERE], [83, 0, 1, HERE, 232, 7, 2], [83, 0, 1, 231, 135, HERE, 0],
    [83, 0, 1, HERE, 1], [83, 0, 1, 2, HERE, 1, 1], [83, 0, 231, 7, 2, HERE, 231, 7], [83, 0, 1, 2, 3, 4, HERE, 4], [83, 0, 1, 2, 3, 4, HERE],
    [83, 0, 5, 4, 3, 2, HERE, 0],
)

PROGRAMS = (
    [HERE], [HERE, 0], [HERE, 80, 1], [HERE, 83, 0],
    # Numbers of definitions and of statements.
    [71, HERE], [71, 128, HERE], [71, 128, HERE, 0], [71, HERE] + number_bytes(MOST + 1), [71] + number_bytes(MOST) + [HERE],
    [71] + number_bytes(MOST) + [HERE, 0], [71, 0, HERE], [71, 0, 129, HERE, 0], [71, 0, HERE] + number_bytes(MOST + 1),
    [71, 0] + number_bytes(MOST) + [HERE], [71, 0] + number_bytes(MOST) + [116, 1, HERE], [71, 0, 1, HERE], [71, 0, 2, 116, 1, HERE],
    # Names.
    [71, 1, HERE], [71, 1, HERE, 0], [71, 1, HERE, 11] + [97] * 11, [71, 1, HERE, 255], [71, 1, 1, HERE], [71, 1, 1, HERE, 96, 0, 0],
    [71, 1, 1, HERE, 123, 0, 0], [71, 1, 2, 97, HERE, 65], [71, 1, 2, 97, HERE], [71, 1, 10] + [122] * 9 + [HERE, 95],
    [71, 1, HERE, *letters("rest"), 0, 0], [71, 1, HERE, *letters("rest")], [71, 1, 4, 114, 101, 115, HERE, 0], [71, 1, 4, 114, 101, 115, HERE],
    [71, 2, 1, 97, 0, HERE, 1, 97, 0, 0], [71, 2, *letters("abc"), 0, HERE, *letters("abc")], [71, 2, *letters("abc"), 0, 3, 97, 98, HERE, 64],
    [71, 1, 1, 97, HERE], [71, 1, 1, 97, 0, HERE], [71, 1, 1, 97, 1, HERE], [71, 1, 1, 97, 128, HERE, 0],
    # The first bytes of statements.
    statement(HERE, 0), statement(HERE, 71), statement(HERE, 97), statement(HERE, 117, 1), statement(HERE, 255), statement(HERE, 100),
    [71, 0, 2, 116, 1, HERE, 1], statement(108, 2, 1, HERE, 5),
    # Ticks, back and rounds.
    statement(116, HERE), statement(98, HERE), statement(108, HERE), statement(116, 128, HERE), statement(98, 128, HERE, 0),
    statement(108, 200, 128, HERE, 0), statement(116, HERE, *number_bytes(MOST + 1)), statement(98, HERE, *number_bytes(MOST + 1), 0, 0),
    statement(108, HERE, *number_bytes(MOST + 1), 1), statement(116, *number_bytes(MOST), HERE), statement(108, *number_bytes(MOST), HERE),
    statement(108, 2, 128, HERE, 0), statement(108, 2, HERE, *number_bytes(MOST + 1)), statement(108, 2, 2, 116, 1, HERE),
    statement(116, HERE, *number_bytes(10 ** 100)),
    # Swaps.
    statement(115, HERE), statement(115, HERE, 2), statement(115, HERE, 128, 1), statement(115, 0, HERE), statement(115, 1, 0, HERE),
    statement(115, 0, 0, HERE), statement(115, 0, 0, HERE, 2), statement(115, 0, 128, HERE, 0), statement(115, 1, 0, 128, HERE, 0),
    statement(115, 0, HERE, *number_bytes(MANY)), statement(115, 1, HERE, *number_bytes(MANY)), statement(115, 1, 0, HERE, *number_bytes(MANY)),
    statement(115, 0, *number_bytes(MANY - 1), HERE), statement(115, 1, *number_bytes(MANY - 1), *number_bytes(MANY - 1), HERE),
    statement(115, 0, 5, HERE, 0, 5), statement(115, 1, 5, 200, 1, HERE, 1, 5, 200, 1, 9), statement(115, 0, 5, 1, 5, HERE),
    statement(115, 0, 0, 0, HERE, *number_bytes(MANY)), statement(115, 0, 0, 1, 0, HERE), statement(115, 0, 5, HERE, 0, 5, 1, 2),
    # Routes.
    statement(114, HERE), statement(114, 128, HERE, 0), statement(114, HERE, *number_bytes(MANY), 1, 1), statement(114, 0, HERE),
    statement(114, 0, HERE, 0), statement(114, 0, HERE, 7, 1), statement(114, 0, HERE, 128, 1), statement(114, 0, 1, HERE),
    statement(114, 0, 2, 1, HERE), statement(114, 0, 1, 128, HERE, 0), statement(114, 0, 1, HERE, *number_bytes(MANY + 1)),
    statement(114, 0, 2, 0, HERE, *number_bytes(MANY + 1)), statement(114, *number_bytes(MANY - 1), 1, *number_bytes(MANY), HERE),
    # Calls.
    statement(99, HERE), statement(99, HERE, 0), statement(99, HERE, 1, 5), statement(99, 128, HERE, 0),
    [71, 1, 1, 97, 1, 99, HERE, 0, 0], [71, 1, 1, 97, 0, 1, 99, HERE, 1], [71, 2, 1, 97, 0, 1, 98, 1, 99, HERE, 1, 0],
    [71, 2, 1, 97, 0, 1, 98, 1, 108, 2, 1, 99, HERE, 200, 1], [71, 1, 1, 97, 0, 1, 99, HERE, *number_bytes(10 ** 30)],
    [71, 1, 1, 97, 0, 1, 99, 128, HERE, 0],
)


class InvalidDataTest(unittest.TestCase):
    def assert_refused(self, decode, values, offset):
        with self.assertRaises(InvalidData, msg=str(values)) as caught:
            decode(pack_bytes(values))
        self.assertEqual(caught.exception.offset, offset, values)

    def assert_stroke(self, decode, values):
        """Assert that data are refused at the stroke, whatever stands behind the fault."""
        values, offset = split(values)
        self.assert_refused(decode, values, offset)
        if offset < len(values):
            # What comes behind does not matter, nor does a right checksum.
            self.assert_refused(decode, values + [0, 1, 2], offset)
            self.assert_refused(decode, list(with_checksum(values)), offset)

    def test_examples(self):
        self.assert_refused(decode_plan, [80, 1, 2, 7], 3)
        with self.assertRaises(InvalidData) as caught:
            decode_state(((2,), ((0,),)), pack_bytes([83, 0, 1, 1]))
        self.assertEqual(caught.exception.offset, 3)

    def test_plans(self):
        for values in PLANS:
            self.assert_stroke(decode_plan, values)

    def test_states(self):
        for values in STATES:
            self.assert_stroke(lambda data: decode_state(PLAN, data), values)

    def test_programs(self):
        for values in PROGRAMS:
            self.assert_stroke(decode_program, values)

    def test_keywords_are_no_names(self):
        for word in KEYWORDS:
            self.assert_refused(decode_program, list(with_checksum([71, 1, *letters(word), 0, 0])), 2)
            self.assert_refused(decode_program, list(with_checksum([71, 2, 1, 97, 0, *letters(word), 0, 0])), 5)
            name = (word + "s")[-10:]
            source = f"define {name} {{}}"
            self.assertEqual(decode_program(with_checksum([71, 1, *letters(name), 0, 0])), source)

    def test_numbers_just_within_their_limits(self):
        for values in (
            statement(116, *number_bytes(MOST)), statement(108, *number_bytes(MOST), 0), statement(114, *number_bytes(MANY - 1), 1, *number_bytes(MANY)),
            statement(115, 0, *number_bytes(MANY - 1), 1, *number_bytes(MANY - 1), *number_bytes(MANY - 1)),
            statement(115, 0, 5, 1, 5, 0), statement(115, 1, 0, 5, 1, 5, 0), [71, 1, 1, 97, 0, 1, 99, 0],
        ):
            data = with_checksum(values)
            self.assertEqual(encode_program(decode_program(data)), data)
        for time in (2 * FAR, 2 * FAR - 1):
            self.assertEqual(abs(decode_state(ALONE, with_checksum([83] + number_bytes(time) + [1]))[0]), FAR)
        self.assertEqual(decode_state(ALONE, with_checksum([83, 0] + number_bytes(999)))[1], (999,))

    def test_the_checksum_is_checked_byte_by_byte(self):
        for decode, data in self.samples():
            high, low = data[-2:]
            for wrong in ((high + 1) % 256, (high + 128) % 256):
                self.assert_refused(decode, [*data[:-2], wrong, low], len(data) - 2)
                self.assert_refused(decode, [*data[:-2], wrong], len(data) - 2)
                self.assert_refused(decode, [*data[:-2], wrong, low, 0], len(data) - 2)
            for wrong in ((low + 1) % 256, (low + 128) % 256):
                self.assert_refused(decode, [*data[:-1], wrong], len(data) - 1)
                self.assert_refused(decode, [*data[:-1], wrong, 7], len(data) - 1)

    def samples(self):
        """Return a list of (decoding function, valid data)."""
        found = []
        for seed, plan in enumerate(all_plans()):
            found.append((decode_plan, encode_plan(plan)))
            state = scattered(plan, 10 ** seed - 7)
            found.append((lambda data, plan=plan: decode_state(plan, data), encode_state(plan, state)))
            found.append((decode_program, encode_program(loose(random_program(seed, plan), seed))))
        return found

    def test_data_cut_off_at_every_place(self):
        for decode, data in self.samples():
            for many in range(len(data)):
                self.assert_refused(decode, list(data[:many]), many)

    def test_data_that_go_on(self):
        for decode, data in self.samples():
            for more in ([0], [1], [255], [0, 0], list(data[-2:]), list(data)):
                self.assert_refused(decode, list(data) + more, len(data))

    def test_each_byte_changed(self):
        # Whatever is decoded without an error is encoded to the same bytes again.
        encoders = {"plan": encode_plan, "program": encode_program}
        samples = [("plan", decode_plan, data) for decode, data in self.samples() if decode == decode_plan][:6]
        samples += [("program", decode_program, data) for decode, data in self.samples() if decode == decode_program]
        right = 0
        for kind, decode, data in samples:
            for at in range(min(len(data) - 2, 70)):
                for value in (0, 1, data[at] ^ 1, data[at] ^ 128, (data[at] + 1) % 256, 255):
                    changed = [*data[:at], value, *data[at + 1:]]
                    if value != data[at]:
                        with self.assertRaises(InvalidData) as caught:
                            decode(bytes(changed))
                        self.assertLessEqual(caught.exception.offset, len(data))
                    corrected = with_checksum(changed[:-2])
                    try:
                        told = decode(corrected)
                    except InvalidData as error:
                        self.assertLessEqual(error.offset, len(data))
                    else:
                        right += 1
                        self.assertEqual(encoders[kind](told), corrected)
        self.assertGreater(right, 100)

    def test_each_byte_of_a_state_changed(self):
        right = 0
        for plan, state in ((PLAN, STATE), (BUSY, scattered(BUSY, -12345)), (ALONE, (FAR, (999,), ((),)))):
            data = encode_state(plan, state)
            for at in range(len(data) - 2):
                for value in range(256):
                    corrected = with_checksum([*data[:at], value, *data[at + 1:-2]])
                    try:
                        told = decode_state(plan, corrected)
                    except InvalidData as error:
                        self.assertLessEqual(error.offset, len(data))
                    else:
                        right += 1
                        self.assertEqual(encode_state(plan, told), corrected)
        self.assertGreater(right, 100)

    def test_data_by_chance(self):
        source = Random(5)
        for first, signs, decode, encode in (
            (80, (0, 1, 1, 1, 2, 7), decode_plan, encode_plan),
            (71, (0, 0, 0, 1, 1, 2, 97, 99, 108, 114, 115, 116, 128), decode_program, encode_program),
            (83, (0, 1, 128, 255), lambda data: decode_state(ALONE, data), lambda told: encode_state(ALONE, told)),
        ):
            right = 0
            for _ in range(6000):
                values = [source.choice(signs) for _ in range(source.randint(1, 8))]
                data = with_checksum([first] + values)
                try:
                    told = decode(data)
                except InvalidData as error:
                    self.assertLessEqual(error.offset, len(data))
                else:
                    right += 1
                    self.assertEqual(encode(told), data)
            self.assertGreater(right, 10)

    def test_of_two_faults_the_first_one_that_is_met_counts(self):
        self.assert_refused(decode_plan, [80, 13, 10], 1)
        self.assert_refused(decode_plan, [80, 1, 10, 7], 2)
        self.assert_refused(decode_plan, [80, 1, 2, 1, 1, 1, 0, 0, 0], 6)
        # A number is read whole before it is checked.
        self.assert_refused(decode_program, statement(116, *([255] * 40)), 44)
        self.assert_refused(decode_program, statement(116, *([255] * 40), 0), 44)
        self.assert_refused(decode_program, statement(116, *([255] * 40), 1), 4)
        # A repeated parcel stands at its first byte, one that is out of range, too.
        self.assert_refused(lambda data: decode_state(PLAN, data), [83, 0, 200, 1, 200, 1, 0], 4)
        self.assert_refused(lambda data: decode_state(PLAN, data), [83, 0, 200, 1, 200, 129, 0, 0], 6)
        # A letter of a name is met before the name is.
        self.assert_refused(decode_program, [71, 2, 1, 97, 0, 1, 96], 6)
        # The second place is read whole before it is compared.
        self.assert_refused(decode_program, statement(115, 0, 128, 1, 0, 128), 9)
        self.assert_refused(decode_program, statement(115, 0, 128, 1, 0, 128, 1), 7)

    def test_an_invalid_plan_comes_first(self):
        for data in (b"", b"\x00", encode_state(PLAN, STATE), bytes([83, 0, 1, 1])):
            with self.assertRaises(InvalidPlan) as caught:
                decode_state(WRONG_PLAN, data)
            self.assertEqual((caught.exception.part, caught.exception.index), ("sizes", 1))

    def test_data_of_another_kind(self):
        kinds = ((decode_plan, encode_plan(PLAN)), (lambda data: decode_state(PLAN, data), encode_state(PLAN, STATE)),
                 (decode_program, encode_program("ticks 1;")))
        for one, (decode, _) in enumerate(kinds):
            for other, (_, data) in enumerate(kinds):
                if one != other:
                    self.assert_refused(decode, list(data), 0)

    def test_states_of_another_plan(self):
        data = encode_state(PLAN, STATE)
        self.assert_refused(lambda values: decode_state(ALONE, values), list(data), 3)
        self.assert_refused(lambda values: decode_state(((1, 3), PLAN[1]), values), list(data), 9)

    def test_deep_data(self):
        for depth in (20, 500):
            values = [71, 0, 1] + [108, 2, 1] * depth
            self.assert_refused(decode_program, values, len(values))
            self.assert_refused(decode_program, values + [0], len(values))


if __name__ == "__main__":
    unittest.main()
