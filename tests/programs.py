"""Programs made by chance, and a slow model of what they do, for several test files.

A program is a list of parts here: ("define", name, block), ("ticks", number),
("back", number), ("swap", place, place), ("route", carrier, entries),
("repeat", rounds, block), ("call", name), where a block is a list of parts.
"""

from random import Random

from samples import PLAN, STATE, slow_tick
from swapshelves.packed import encode_program
from swapshelves.plans import places
from swapshelves.program_inversion import invert_program
from swapshelves.program_printer import format_program
from swapshelves.program_runs import (
    count_lefts, first_disagreement, program_effect, program_order, repetitions_to, run_program,
)
from swapshelves.program_simplifier import simplify_program

NAMES = ("a", "b", "tick", "swapper", "restx", "zzzzzzzzzz", "definee", "callx", "shelves", "ro")
GAPS = ("", "", "", " ", "  ", "\n", " \n ", "#\n", "# 0 { call x; }\n", "\n#x;#\n\n")


def calls_with_plan(source):
    """Return the list of functions that pass a program on with a plan."""
    return [
        lambda: invert_program(PLAN, source),
        lambda: run_program(PLAN, STATE, source),
        lambda: program_effect(PLAN, 0, source),
        lambda: count_lefts(PLAN, STATE, source, 1),
        lambda: program_order(PLAN, 0, source),
        lambda: repetitions_to(PLAN, STATE, source, 1, ("carrier", 0)),
        lambda: first_disagreement(PLAN, source, ""),
        lambda: first_disagreement(PLAN, "", source),
    ]


def calls_without_plan(source):
    """Return the list of functions that pass a program on without a plan."""
    return [lambda: format_program(source), lambda: simplify_program(source), lambda: encode_program(source)]


def random_program(seed, plan, most=5, ticks=12, rounds=3, depth=3):
    """Return a program that fits a plan; the same one for the same seed."""
    maker = Maker(Random(seed), plan, most, ticks, rounds)
    return maker.program(depth)


class Maker:
    """Makes programs that fit a plan, by chance."""

    def __init__(self, source, plan, most, ticks, rounds):
        self.source = source
        self.plan = plan
        self.most = most
        self.ticks = ticks
        self.rounds = rounds
        self.places = places(plan)
        self.names = []

    def program(self, depth):
        """Return a program, with definitions between its statements."""
        parts = []
        for _ in range(self.source.randint(0, self.most)):
            if self.source.random() < 0.25 and len(self.names) < len(NAMES):
                block = self.block(depth - 1)
                name = NAMES[len(self.names)]
                parts.append(("define", name, block))
                self.names.append(name)
            else:
                parts.append(self.statement(depth))
        return parts

    def block(self, depth):
        """Return a block."""
        return [self.statement(depth) for _ in range(self.source.randint(0, self.most))]

    def statement(self, depth):
        """Return a statement with so many levels of blocks at most."""
        words = ["ticks", "ticks", "back", "route", "swap"]
        if depth > 0:
            words.extend(["repeat", "repeat"])
        if self.names:
            words.extend(["call", "call"])
        word = self.source.choice(words)
        if word == "swap" and len(self.places) < 2:
            word = "ticks"
        if word in ("ticks", "back"):
            return word, self.source.randint(0, self.ticks)
        if word == "swap":
            return ("swap",) + tuple(self.source.sample(self.places, 2))
        if word == "route":
            entries = [None] + list(range(len(self.plan[0])))
            many = self.source.choice((1, 1, 2, 3, 4, 6))
            route = tuple(self.source.choice(entries) for _ in range(many))
            return "route", self.source.randrange(len(self.plan[1])), route
        if word == "repeat":
            return "repeat", self.source.randint(0, self.rounds), self.block(depth - 1)
        return "call", self.source.choice(self.names)


def words_of_place(place):
    """Return the tokens of a place."""
    return [str(part) for part in place]


def words_of(parts):
    """Return the list of the tokens of a program."""
    words = []
    for part in parts:
        if part[0] in ("ticks", "back"):
            words.extend([part[0], str(part[1]), ";"])
        elif part[0] == "swap":
            words.extend(["swap", *words_of_place(part[1]), ",", *words_of_place(part[2]), ";"])
        elif part[0] == "route":
            entries = ["rest" if entry is None else str(entry) for entry in part[2]]
            words.extend(["route", str(part[1]), ":", *entries, ";"])
        elif part[0] == "call":
            words.extend(["call", part[1], ";"])
        else:
            words.extend([part[0], str(part[1]), "{", *words_of(part[2]), "}"])
    return words


def plain(parts):
    """Return the text of a program, all of it in one line."""
    return " ".join(words_of(parts))


def loose(parts, seed):
    """Return the text of a program with a layout by chance."""
    source = Random(seed)
    text = source.choice(GAPS)
    before = ""
    for word in words_of(parts):
        gap = source.choice(GAPS)
        # Letters behind letters and digits behind digits would be one token.
        if gap == "" and (before.isalpha() and word.isalpha() or before.isdigit() and word.isdigit()):
            gap = " "
        text += gap + word
        before = word
    return text + source.choice(GAPS)


def canonical(parts):
    """Return the text of a program in canonical form, as point 22 tells it."""
    definitions = [part for part in parts if part[0] == "define"]
    others = [part for part in parts if part[0] != "define"]
    return "\n".join(canonical_lines(definitions + others, ""))


def canonical_lines(parts, indent):
    """Return the lines of a block in canonical form."""
    lines = []
    for part in parts:
        if part[0] in ("define", "repeat"):
            head = f"{indent}{part[0]} {part[1]} "
            if part[2]:
                lines.append(head + "{")
                lines.extend(canonical_lines(part[2], indent + "  "))
                lines.append(indent + "}")
            else:
                lines.append(head + "{}")
        else:
            text = plain([part])
            for sign in ";,:":
                text = text.replace(" " + sign, sign)
            lines.append(indent + text)
    return lines


def parts_of(text):
    """Return the parts of a program in canonical form."""
    found = []
    blocks = [found]
    for line in text.split("\n") if text else []:
        words = line.replace(";", "").replace(",", "").replace(":", "").split()
        if words == ["}"]:
            blocks.pop()
        elif words[0] in ("define", "repeat"):
            block = []
            blocks[-1].append((words[0], words[1] if words[0] == "define" else int(words[1]), block))
            if words[-1] == "{":
                blocks.append(block)
        else:
            blocks[-1].append(part_of(words))
    assert blocks == [found]
    return found


def part_of(words):
    """Return the part with these words: a statement without a block."""
    if words[0] == "swap":
        middle = 3 if words[1] == "carrier" else 4
        return "swap", place_of(words[1:middle]), place_of(words[middle:])
    if words[0] == "route":
        return "route", int(words[1]), tuple(None if word == "rest" else int(word) for word in words[2:])
    return words[0], words[1] if words[0] == "call" else int(words[1])


def place_of(words):
    """Return the place with these words."""
    return (words[0],) + tuple(int(word) for word in words[1:])


def number_of_statements(parts):
    """Return how many statements there are in all blocks of a program."""
    many = 0
    for part in parts:
        if part[0] != "define":
            many += 1
        if part[0] in ("define", "repeat"):
            many += number_of_statements(part[2])
    return many


def slow_tick_back(plan, state):
    """Return (state, exchanges) before the last tick; the exchanges are those undone."""
    time, carried, shelves = state
    carried = list(carried)
    queues = [list(shelf) for shelf in shelves]
    exchanges = []
    for carrier in reversed(range(len(plan[1]))):
        route = plan[1][carrier]
        shelf = route[(time - 1) % len(route)]
        if shelf is not None:
            queues[shelf].insert(0, carried[carrier])
            taken, carried[carrier] = carried[carrier], queues[shelf].pop()
            exchanges.append((carrier, shelf, carried[carrier], taken))
    return (time - 1, tuple(carried), tuple(tuple(queue) for queue in queues)), exchanges


class Run:
    """Performs a program statement by statement and tick by tick."""

    def __init__(self, plan, state, parts, many=1):
        self.plan = plan
        self.state = state
        self.blocks = {}
        parcels = list(state[1]) + [parcel for shelf in state[2] for parcel in shelf]
        self.lefts = {parcel: [0] * len(plan[0]) for parcel in parcels}
        for _ in range(many):
            self.perform(parts)

    def perform(self, parts):
        """Perform a block."""
        for part in parts:
            getattr(self, "do_" + part[0])(*part[1:])

    def do_define(self, name, block):
        """Remember a definition."""
        self.blocks[name] = block

    def do_call(self, name):
        """Perform the block of a definition."""
        self.perform(self.blocks[name])

    def do_repeat(self, rounds, block):
        """Perform a block some times."""
        for _ in range(rounds):
            self.perform(block)

    def do_ticks(self, number):
        """Perform ticks."""
        for _ in range(number):
            self.state, exchanges = slow_tick(self.plan, self.state)
            self.count(exchanges, 1)

    def do_back(self, number):
        """Undo ticks."""
        for _ in range(number):
            self.state, exchanges = slow_tick_back(self.plan, self.state)
            self.count(exchanges, -1)

    def count(self, exchanges, worth):
        """Count the parcels that are left in exchanges."""
        for _, shelf, left, _ in exchanges:
            self.lefts[left][shelf] += worth

    def do_swap(self, one, other):
        """Exchange the parcels of two places."""
        time, carried, shelves = self.state
        rows = [list(carried)] + [list(shelf) for shelf in shelves]
        (row, at), (later, there) = [self.row_of(place) for place in (one, other)]
        rows[row][at], rows[later][there] = rows[later][there], rows[row][at]
        self.state = time, tuple(rows[0]), tuple(tuple(row) for row in rows[1:])

    def row_of(self, place):
        """Return in which row a place is, and at which index."""
        return (0, place[1]) if place[0] == "carrier" else (place[1] + 1, place[2])

    def do_route(self, carrier, entries):
        """Give a carrier another route."""
        routes = list(self.plan[1])
        routes[carrier] = entries
        self.plan = (self.plan[0], tuple(routes))
