"""Performing: what a program does to the parcels at all places.

The changes of a block are computed for each moment at which it is needed,
those of inner and of called blocks first. So neither the numbers in a program
nor the number of its calls and nested blocks matter much.
"""

from math import lcm

from swapshelves.changes import Change, Wheel, idle_change, wheel_of_ticks
from swapshelves.plans import numbers_of_places
from swapshelves.program_blocks import signed_ticks
from swapshelves.program_schedule import Schedule


class Performer:
    """Performs a program that fits a valid plan.

    `done` contains for each block a dict of moments and changes. `worths` are
    those of the shelves, for the lefts of the changes.
    """

    def __init__(self, plan, program, worths):
        self.plan = plan
        self.worths = worths
        self.schedule = Schedule(program.blocks, span_of_routes(plan, program.blocks))
        self.numbers = numbers_of_places(plan)
        self.idle = idle_change(len(self.numbers))
        self.done = [{} for _ in program.blocks]
        self.ticks = {}
        self.rounds = {}

    def start(self, time):
        """Return the moment before the program at a time."""
        return self.schedule.moment(self.plan[1], time)

    def total_ticks(self):
        """Return the time after the program less the time before."""
        return self.schedule.outcomes[-1][0]

    def plan_after(self):
        """Return the plan after the program."""
        routes, _ = self.schedule.after_block(-1, self.start(0))
        return self.plan[0], routes

    def further_starts(self, start):
        """Return the moments before the program from the second time on, once around."""
        return self.schedule.further_rounds(-1, self.schedule.span + 1, start)

    def perform(self, starts):
        """Return the changes of the program from each of some moments on."""
        for index, moments in enumerate(self.schedule.moments_of_blocks(starts)):
            for moment in moments:
                self.done[index][moment] = self.change_of_block(index, moment)
        return [self.done[-1][start] for start in starts]

    def perform_once(self, time):
        """Return the change of the program from a time on."""
        return self.perform([self.start(time)])[0]

    def change_of_block(self, index, moment):
        """Return the change of a block from a moment on."""
        change = self.idle
        for statement, before in self.schedule.steps(index, moment):
            if statement[0] != "route":
                change = change.then(self.change_of_statement(statement, before))
        return change

    def change_of_statement(self, statement, moment):
        """Return the change of a statement, other than a route, at a moment."""
        match statement:
            case ("swap", one, other):
                return self.change_of_swap(self.numbers[one], self.numbers[other])
            case ("repeat" | "call", rounds, index):
                return self.change_of_rounds(index, rounds, moment)
        return self.change_of_ticks(signed_ticks(statement), moment)

    def change_of_swap(self, one, other):
        """Return the change that exchanges the parcels of two places."""
        effect = list(self.idle.effect)
        effect[one] = other
        effect[other] = one
        return Change(tuple(effect), self.idle.lefts)

    def change_of_ticks(self, ticks, moment):
        """Return the change of ticks at a moment, negative ones undone."""
        routes, time = moment
        if routes not in self.ticks:
            self.ticks[routes] = wheel_of_ticks((self.plan[0], routes), self.worths)
        return self.ticks[routes].turn(time, ticks)

    def change_of_rounds(self, index, rounds, moment):
        """Return the change of so many rounds of a block from a moment on."""
        if rounds == 0:
            return self.idle
        changes = self.done[index]
        further = self.schedule.further_rounds(index, rounds, moment)
        change = changes[moment]
        if rounds - 1 > len(further):
            return change.then(self.change_around(index, further, rounds - 1))
        for later in further:
            change = change.then(changes[later])
        return change

    def change_around(self, index, circle, rounds):
        """Return the change of so many rounds of a block from the first moment of a circle on."""
        # All moments of the circle share one wheel, that from its earliest time on.
        times = [time for _, time in circle]
        first = times.index(min(times))
        key = (index, circle[first])
        if key not in self.rounds:
            steps = [self.done[index][moment] for moment in circle[first:] + circle[:first]]
            self.rounds[key] = Wheel(self.idle, steps)
        return self.rounds[key].turn(len(circle) - first, rounds)


def span_of_routes(plan, blocks):
    """Return a number of ticks after which all routes of a plan and of blocks begin again."""
    span = 1
    for route in plan[1]:
        span = lcm(span, len(route))
    for block in blocks:
        for statement in block:
            if statement[0] == "route":
                span = lcm(span, len(statement[2]))
    return span
