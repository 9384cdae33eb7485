"""Printing: the text of a program in canonical form."""

from swapshelves.plan_text import text_of_entry
from swapshelves.program_parser import parse_program


def format_program(source):
    """Return a program in canonical form."""
    return text_of(parse_program(source, None))


def text_of(program):
    """Return the canonical text of a program."""
    words = {index: name for name, index in program.names.items()}
    texts = []
    for block in program.blocks:
        lines = []
        for statement in block:
            lines.extend(lines_of_statement(statement, texts, words))
        texts.append(lines)
    found = []
    for name, index in program.names.items():
        found.extend(lines_of_block(f"define {name}", texts[index]))
    return "\n".join(found + texts[-1])


def lines_of_statement(statement, texts, words):
    """Return the lines of a statement, given those within all earlier blocks and their names."""
    match statement:
        case ("swap", one, other):
            return [f"swap {text_of_place(one)}, {text_of_place(other)};"]
        case ("route", carrier, entries):
            route = " ".join([text_of_entry(entry) for entry in entries])
            return [f"route {carrier}: {route};"]
        case ("repeat", rounds, index):
            return lines_of_block(f"repeat {rounds}", texts[index])
        case ("call", _, index):
            return [f"call {words[index]};"]
    word, number = statement
    return [f"{word} {number};"]


def lines_of_block(head, lines):
    """Return the lines of a definition or of a repeat, given those in its block."""
    if not lines:
        return [head + " {}"]
    return [head + " {"] + ["  " + line for line in lines] + ["}"]


def text_of_place(place):
    """Return the text of a place."""
    return " ".join([str(part) for part in place])
