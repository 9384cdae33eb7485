"""Plans, states and programs as bytes."""

from swapshelves.byte_reader import ByteReader
from swapshelves.byte_writer import entry_of_number, groups_of, number_of_entry, sealed
from swapshelves.checks import check_between
from swapshelves.errors import InvalidData
from swapshelves.packed_programs import bytes_of_program, read_program
from swapshelves.plans import (
    MOST_CARRIERS, MOST_ENTRIES, MOST_ON_SHELF, MOST_SHELVES, check_plan, number_of_places,
)
from swapshelves.program_parser import parse_program
from swapshelves.program_printer import text_of
from swapshelves.states import LAST_PARCEL, TIME_LIMIT, check_state, parcels_in, state_of

PLAN_BYTE = 80
STATE_BYTE = 83
PROGRAM_BYTE = 71


def pack_bytes(numbers):
    """Return the bytes of a list of integers from 0 to 255."""
    for number in numbers:
        check_between(number, 0, 255)
    return bytes(numbers)


def unpack_bytes(data):
    """Return the list of the integers of bytes."""
    return list(data)


def encode_plan(plan):
    """Return the bytes of a plan."""
    check_plan(plan)
    sizes, routes = plan
    found = [PLAN_BYTE, len(sizes), *sizes, len(routes)]
    for route in routes:
        found.append(len(route))
        found.extend([number_of_entry(entry) for entry in route])
    return sealed(found)


def decode_plan(data):
    """Return the plan of bytes."""
    reader = ByteReader(data)
    reader.byte(PLAN_BYTE, PLAN_BYTE)
    shelves = reader.byte(1, MOST_SHELVES)
    sizes = [reader.byte(0, MOST_ON_SHELF) for _ in range(shelves)]
    routes = []
    for _ in range(reader.byte(1, MOST_CARRIERS)):
        many = reader.byte(1, MOST_ENTRIES)
        routes.append(tuple([entry_of_number(reader.byte(0, shelves)) for _ in range(many)]))
    reader.finish()
    return tuple(sizes), tuple(routes)


def encode_state(plan, state):
    """Return the bytes of a state."""
    check_plan(plan)
    check_state(plan, state)
    time = state[0]
    found = [STATE_BYTE] + groups_of(2 * time if time >= 0 else -2 * time - 1)
    for parcel in parcels_in(state):
        found.extend(groups_of(parcel))
    return sealed(found)


def decode_state(plan, data):
    """Return the state of bytes."""
    check_plan(plan)
    reader = ByteReader(data)
    reader.byte(STATE_BYTE, STATE_BYTE)
    number = reader.number(0, 2 * TIME_LIMIT)
    time = -(number // 2) - 1 if number & 1 else number // 2
    parcels = []
    for _ in range(number_of_places(plan)):
        start = reader.offset
        parcel = reader.number(1, LAST_PARCEL)
        if parcel in parcels:
            raise InvalidData(start)
        parcels.append(parcel)
    reader.finish()
    return state_of(plan, time, parcels)


def encode_program(source):
    """Return the bytes of a program."""
    return sealed([PROGRAM_BYTE] + bytes_of_program(parse_program(source, None)))


def decode_program(data):
    """Return the program of bytes, in canonical form."""
    reader = ByteReader(data)
    reader.byte(PROGRAM_BYTE, PROGRAM_BYTE)
    program = read_program(reader)
    reader.finish()
    return text_of(program)
