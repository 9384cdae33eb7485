"""The schedule of a program: at which moments its blocks are performed.

A moment is a tuple (routes, time). What ticks do depends on nothing else; and
of the time, only the rest matters that it leaves when it is divided by a span
that all routes fit into. So a block has few moments, however often it is
performed. A block changes all moments alike: it adds a number to the time, and
gives some carriers certain routes. So from the second round of a repeat on,
the routes are the same before each round, and the times go round in a circle.
"""

from math import gcd

from swapshelves.program_blocks import signed_ticks


class Schedule:
    """Tells moments of the blocks of a program, with times modulo a span.

    `outcomes` tells for each block what it changes about a moment, a tuple
    (ticks, routes): the ticks that it adds to the time, and a dict of the
    carriers whose routes it changes, and their routes.
    """

    def __init__(self, blocks, span):
        self.blocks = blocks
        self.span = span
        self.outcomes = []
        for block in blocks:
            self.outcomes.append(outcome_of_block(block, self.outcomes))

    def moment(self, routes, time):
        """Return the moment at a time."""
        return routes, int(time) % self.span

    def after_block(self, index, moment):
        """Return the moment after a block from its moment on."""
        return self.changed(moment, self.outcomes[index])

    def changed(self, moment, outcome):
        """Return a moment after (ticks, routes)."""
        routes, time = moment
        ticks, changes = outcome
        return self.moment(rerouted(routes, changes), time + ticks)

    def steps(self, index, moment):
        """Return the list of (statement, moment before it) of a block from a moment on."""
        found = []
        for statement in self.blocks[index]:
            found.append((statement, moment))
            moment = self.changed(moment, outcome_of_statement(statement, self.outcomes))
        return found

    def further_rounds(self, index, rounds, moment):
        """Return the moments before the rounds of a block after the first one, once around at most."""
        routes, time = self.after_block(index, moment)
        step = int(self.outcomes[index][0]) % self.span
        circle = self.span // gcd(self.span, step)
        return [self.moment(routes, time + turn * step) for turn in range(min(rounds - 1, circle))]

    def moments_of_blocks(self, starts):
        """Return a list with a list of moments for each block, given those of the last one."""
        moments = [{} for _ in self.blocks]
        moments[-1] = {start: True for start in starts}
        for index in reversed(range(len(self.blocks))):
            for moment in list(moments[index]):
                for inner, before in self.moments_within(index, moment):
                    moments[inner][before] = True
        return [list(row) for row in moments]

    def moments_within(self, index, moment):
        """Return the list of (block, its moment) for all that a block performs from a moment on."""
        found = []
        for statement, before in self.steps(index, moment):
            if statement[0] in ("repeat", "call") and statement[1] > 0:
                _, rounds, inner = statement
                found.append((inner, before))
                found.extend([(inner, later) for later in self.further_rounds(inner, rounds, before)])
        return found


def outcome_of_block(block, outcomes):
    """Return (ticks, routes) of a block, given those of earlier blocks."""
    ticks = 0
    routes = {}
    for statement in block:
        more, changes = outcome_of_statement(statement, outcomes)
        ticks += more
        routes.update(changes)
    return ticks, routes


def outcome_of_statement(statement, outcomes):
    """Return (ticks, routes) of a statement, given those of all blocks that it names."""
    match statement:
        case ("ticks" | "back", _):
            return signed_ticks(statement), {}
        case ("route", carrier, entries):
            return 0, {carrier: entries}
        case ("repeat" | "call", rounds, index):
            if rounds > 0:
                ticks, routes = outcomes[index]
                return rounds * ticks, routes
    return 0, {}


def ticks_either_way(blocks):
    """Return how many ticks the last block performs or undoes, each of them counted."""
    found = []
    for block in blocks:
        ticks = 0
        for statement in block:
            if statement[0] in ("ticks", "back"):
                ticks += statement[1]
            if statement[0] in ("repeat", "call"):
                ticks += statement[1] * found[statement[2]]
        found.append(ticks)
    return found[-1]


def rerouted(routes, changes):
    """Return routes in which those of some carriers are replaced."""
    if not changes:
        return routes
    return tuple([changes.get(carrier, route) for carrier, route in enumerate(routes)])
