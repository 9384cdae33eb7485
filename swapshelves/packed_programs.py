"""Programs as bytes, without their first byte and their checksum."""

from swapshelves.byte_writer import entry_of_number, groups_of, number_of_entry
from swapshelves.checks import COUNT_LIMIT
from swapshelves.errors import InvalidData
from swapshelves.plans import MOST_ENTRIES
from swapshelves.program_blocks import KEYWORDS, Builder
from swapshelves.program_tokens import LETTERS, MOST_LETTERS

CODES = {"ticks": 116, "back": 98, "swap": 115, "route": 114, "repeat": 108, "call": 99}
WORDS = {116: "ticks", 98: "back", 115: "swap", 114: "route", 108: "repeat", 99: "call"}
FIRST_LETTER = 97

# One more than the largest number that the text of a program can tell.
NUMBER_LIMIT = 10 ** 19


def bytes_of_program(program):
    """Return the bytes of a program, a list."""
    order = {index: number for number, index in enumerate(program.names.values())}
    parts = []
    for block in program.blocks:
        row = groups_of(len(block))
        for statement in block:
            row.append(CODES[statement[0]])
            row.extend(bytes_of_statement(statement, parts, order))
        parts.append(row)
    found = groups_of(len(program.names))
    for name, index in program.names.items():
        found.append(len(name))
        found.extend([FIRST_LETTER + LETTERS.index(letter) for letter in name])
        found.extend(parts[index])
    return found + parts[-1]


def bytes_of_statement(statement, parts, order):
    """Return the bytes of a statement behind the first one, given those of all earlier blocks."""
    match statement:
        case ("swap", one, other):
            return bytes_of_place(one) + bytes_of_place(other)
        case ("route", carrier, entries):
            return groups_of(carrier) + bytes_of_entries(entries)
        case ("repeat", rounds, index):
            return groups_of(rounds) + parts[index]
        case ("call", _, index):
            return groups_of(order[index])
    return groups_of(statement[1])


def bytes_of_place(place):
    """Return the bytes of a place."""
    found = [0 if place[0] == "carrier" else 1]
    for number in place[1:]:
        found.extend(groups_of(number))
    return found


def bytes_of_entries(entries):
    """Return the bytes of the entries of a route in a program."""
    found = [len(entries)]
    for entry in entries:
        found.extend(groups_of(number_of_entry(entry)))
    return found


def read_program(reader):
    """Return the program that a reader of bytes reads."""
    builder = Builder()
    for _ in range(reader.number(0, COUNT_LIMIT)):
        builder.begin("define", read_name(reader, builder.names))
        read_block(reader, builder)
    read_block(reader, builder)
    return builder.finished()


def read_name(reader, names):
    """Return the name of a definition behind definitions with other names."""
    start = reader.offset
    name = ""
    for _ in range(reader.byte(1, MOST_LETTERS)):
        letter = reader.byte(FIRST_LETTER, FIRST_LETTER + len(LETTERS) - 1)
        name += LETTERS[letter - FIRST_LETTER]
    if name in KEYWORDS or name in names:
        raise InvalidData(start)
    return name


def read_block(reader, builder):
    """Read the statements of a block, and all blocks within it."""
    # How many statements are still to come, in this block and in those within it.
    missing = [reader.number(0, COUNT_LIMIT)]
    while missing:
        if missing[-1] > 0:
            missing[-1] -= 1
            if read_statement(reader, builder) == "repeat":
                missing.append(reader.number(0, COUNT_LIMIT))
        else:
            missing.pop()
            if builder.heads:
                builder.end()


def read_statement(reader, builder):
    """Read a statement, a repeat only up to its block, and return its keyword."""
    word = WORDS.get(reader.byte(0, 255))
    match word:
        case "ticks" | "back":
            builder.add((word, reader.number(0, COUNT_LIMIT)))
        case "swap":
            builder.add(read_swap(reader))
        case "route":
            carrier = reader.number(0, NUMBER_LIMIT - 1)
            builder.add(("route", carrier, read_entries(reader)))
        case "repeat":
            builder.begin("repeat", reader.number(0, COUNT_LIMIT))
        case "call":
            number = reader.number(0, len(builder.names) - 1)
            builder.add(("call", 1, list(builder.names.values())[number]))
        case _:
            raise InvalidData(reader.offset - 1)
    return word


def read_swap(reader):
    """Return the swap of two different places."""
    one = read_place(reader)
    start = reader.offset
    other = read_place(reader)
    if one == other:
        raise InvalidData(start)
    return "swap", one, other


def read_place(reader):
    """Return a place."""
    if reader.byte(0, 1) == 0:
        return "carrier", reader.number(0, NUMBER_LIMIT - 1)
    shelf = reader.number(0, NUMBER_LIMIT - 1)
    return "shelf", shelf, reader.number(0, NUMBER_LIMIT - 1)


def read_entries(reader):
    """Return the tuple of the entries of a route."""
    many = reader.byte(1, MOST_ENTRIES)
    return tuple([entry_of_number(reader.number(0, NUMBER_LIMIT)) for _ in range(many)])
