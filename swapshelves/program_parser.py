"""Parsing: from the text of a program to its blocks."""

from swapshelves.errors import ProgramSyntaxError
from swapshelves.program_blocks import KEYWORDS, Builder
from swapshelves.program_checks import Checker
from swapshelves.program_tokens import is_number, is_word, tokens_of


def parse_program(source, plan):
    """Return the program of a text, checked against a valid plan, or against none (None)."""
    parser = Parser(tokens_of(source), Checker(plan))
    while not parser.is_at_end():
        parser.read_part()
    parser.checker.report()
    return parser.builder.finished()


class Parser:
    """Reads a program token by token, and raises ProgramSyntaxError where one does not fit."""

    def __init__(self, tokens, checker):
        self.tokens = tokens
        self.position = 0
        self.checker = checker
        self.builder = Builder()

    def is_at_end(self):
        """Tell whether the program ends here, outside of all blocks."""
        return self.word() == "" and not self.builder.heads

    def read_part(self):
        """Read a statement, or the beginning or the end of a block."""
        match self.word():
            case "ticks" | "back":
                self.read_ticks()
            case "swap":
                self.read_swap()
            case "route":
                self.read_route()
            case "repeat":
                self.read_repeat()
            case "call":
                self.read_call()
            case "define" if not self.builder.heads:
                self.read_definition()
            case "}" if self.builder.heads:
                self.take()
                self.builder.end()
            case _:
                self.refuse()

    def read_ticks(self):
        """Read a statement `ticks` or `back`."""
        word, _, _ = self.take()
        number = self.take_count()
        self.take_sign(";")
        self.builder.add((word, number))

    def read_swap(self):
        """Read a swap."""
        self.take()
        one = self.take_place()
        self.take_sign(",")
        token = self.tokens[self.position]
        other = self.take_place()
        self.checker.see_swap(one, other, token)
        self.take_sign(";")
        self.builder.add(("swap", one, other))

    def read_route(self):
        """Read a route, which has one entry at least."""
        self.take()
        token = self.tokens[self.position]
        carrier = self.take_number()
        self.checker.see_carrier(carrier, token)
        self.take_sign(":")
        entries = [self.take_entry(0)]
        while self.word() != ";":
            entries.append(self.take_entry(len(entries)))
        self.take_sign(";")
        self.builder.add(("route", carrier, tuple(entries)))

    def read_repeat(self):
        """Read a repeat up to the beginning of its block."""
        self.take()
        rounds = self.take_count()
        self.take_sign("{")
        self.builder.begin("repeat", rounds)

    def read_call(self):
        """Read a call."""
        self.take()
        token = self.take_name()
        name = token[0]
        self.checker.see_call(self.builder.names, name, token)
        self.take_sign(";")
        self.builder.add(("call", 1, self.builder.names.get(name)))

    def read_definition(self):
        """Read a definition up to the beginning of its block."""
        self.take()
        token = self.take_name()
        name = token[0]
        self.checker.see_definition(self.builder.names, name, token)
        self.take_sign("{")
        self.builder.begin("define", name)

    def take_count(self):
        """Return a number of ticks or rounds, and go on behind it."""
        token = self.tokens[self.position]
        number = self.take_number()
        self.checker.see_number(number, token)
        return number

    def take_place(self):
        """Return a place, and go on behind it."""
        token = self.tokens[self.position]
        place = self.take_words_of_place()
        self.checker.see_place(place, token)
        return place

    def take_words_of_place(self):
        """Return what a place is called, and go on behind it."""
        if self.word() == "carrier":
            self.take()
            return "carrier", self.take_number()
        self.take_sign("shelf")
        shelf = self.take_number()
        return "shelf", shelf, self.take_number()

    def take_entry(self, index):
        """Return the entry with an index of a route, and go on behind it."""
        token = self.tokens[self.position]
        if self.word() == "rest":
            self.take()
            entry = None
        else:
            entry = self.take_number()
        self.checker.see_entry(index, entry, token)
        return entry

    def take_number(self):
        """Return a number, and go on behind it."""
        if not is_number(self.word()):
            self.refuse()
        return int(self.take()[0])

    def take_name(self):
        """Return the token of a name, and go on behind it."""
        if not is_word(self.word()) or self.word() in KEYWORDS:
            self.refuse()
        return self.take()

    def take_sign(self, text):
        """Go on behind a sign, or a word, that must stand here."""
        if self.word() != text:
            self.refuse()
        self.take()

    def take(self):
        """Return the token that stands here, and go on behind it."""
        token = self.tokens[self.position]
        self.position += 1
        return token

    def word(self):
        """Return the text of the token that stands here."""
        return self.tokens[self.position][0]

    def refuse(self):
        """Raise ProgramSyntaxError for the token that stands here."""
        _, row, column = self.tokens[self.position]
        raise ProgramSyntaxError(row, column)
