"""Simplifying: shorter programs that do the same."""

from swapshelves.checks import COUNT_LIMIT
from swapshelves.program_blocks import Program, signed_ticks
from swapshelves.program_parser import parse_program
from swapshelves.program_printer import text_of


def simplify_program(source):
    """Return a program in canonical form that does the same, without statements that it does not need."""
    program = parse_program(source, None)
    simple = []
    for block in program.blocks:
        simple.append(simplified_block(block, simple))
    return text_of(with_used_blocks(simple, program.names))


def simplified_block(block, simple):
    """Return a simplified block, given all earlier blocks simplified."""
    found = []
    for statement in block:
        found.extend(unfolded(statement, simple))
    # Joined ticks may bring routes together, never the other way round: where a
    # route is left out, a later one stays, and keeps the ticks around it apart.
    return joined(without_replaced_routes(joined(found)))


def unfolded(statement, simple):
    """Return statements that do the same as one, without repeats and calls that are not needed."""
    match statement:
        case ("repeat", 0, _):
            return []
        case ("repeat", 1, index):
            return simple[index]
        case ("repeat", rounds, index):
            return unfolded_rounds(rounds, index, simple[index])
        case ("call", _, index):
            return [statement] if simple[index] else []
    return [statement]


def unfolded_rounds(rounds, index, block):
    """Return statements that do the same as two or more rounds of a simplified block."""
    if not block:
        return []
    if len(block) == 1:
        return unfolded_statement(rounds, index, block[0])
    return [("repeat", rounds, index)]


def unfolded_statement(rounds, index, statement):
    """Return the same for a block of a single statement."""
    word = statement[0]
    if word == "swap":
        return [statement] if rounds & 1 else []
    if word == "route":
        return [statement]
    if word != "call" and rounds * statement[1] <= COUNT_LIMIT:
        return [(word, rounds * statement[1]) + statement[2:]]
    return [("repeat", rounds, index)]


def joined(statements):
    """Return statements in which ticks side by side are joined, and swaps that undo each other left out."""
    found = []
    for statement in statements:
        if is_ticks(statement):
            join_ticks(found, statement)
        elif found and is_same_swap(found[-1], statement):
            found.pop()
        else:
            found.append(statement)
    return found


def join_ticks(found, statement):
    """Add ticks behind joined statements, joined with those before as far as the limit allows."""
    ticks = signed_ticks(statement)
    while found and is_ticks(found[-1]) and abs(ticks + signed_ticks(found[-1])) <= COUNT_LIMIT:
        ticks += signed_ticks(found.pop())
    if ticks > 0:
        found.append(("ticks", ticks))
    if ticks < 0:
        found.append(("back", -ticks))


def is_ticks(statement):
    """Tell whether a statement is `ticks` or `back`."""
    return statement[0] in ("ticks", "back")


def is_same_swap(one, other):
    """Tell whether two statements are swaps of the same two places."""
    if one[0] != "swap" or other[0] != "swap":
        return False
    return one[1:] == other[1:] or one[1:] == (other[2], other[1])


def without_replaced_routes(statements):
    """Return statements without routes that are replaced before anything but swaps and routes."""
    found = []
    later = {}
    for statement in reversed(statements):
        if statement[0] == "route":
            if statement[1] not in later:
                found.append(statement)
            later[statement[1]] = True
        else:
            found.append(statement)
            if statement[0] != "swap":
                later = {}
    return found[::-1]


def with_used_blocks(blocks, names):
    """Return the program of the blocks and the definitions that its last block needs, the others left empty."""
    used = {len(blocks) - 1: True}
    kept = []
    for index in reversed(range(len(blocks))):
        kept.append(blocks[index] if index in used else [])
        for statement in kept[-1]:
            if statement[0] in ("repeat", "call"):
                used[statement[2]] = True
    return Program(kept[::-1], {name: index for name, index in names.items() if index in used})
