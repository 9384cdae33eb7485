"""Inversion: programs that undo other programs."""

from swapshelves.plans import check_plan
from swapshelves.program_blocks import Program
from swapshelves.program_parser import parse_program
from swapshelves.program_printer import text_of
from swapshelves.program_schedule import Schedule
from swapshelves.program_tokens import LETTERS


def invert_program(plan, source):
    """Return a program that undoes a program that begins with a plan."""
    check_plan(plan)
    program = parse_program(source, plan)
    # Whatever the time is, as many ticks back undo ticks. So all times may be one.
    schedule = Schedule(program.blocks, 1)
    return text_of(Inverter(schedule, program.names).inverted(schedule.moment(plan[1], 0)))


class Inverter:
    """Makes blocks that undo the blocks of a program.

    What undoes a block depends on the routes before it, since they are to be
    restored. So there is a block for each block and each of its moments;
    `undoing` contains their indexes. `called` contains the names of those that
    are called, the called ones before those who call them. No name is one of
    `others`, the program's own: so both programs may stand in one text.
    """

    def __init__(self, schedule, others):
        self.schedule = schedule
        self.others = others
        self.blocks = []
        self.undoing = {}
        self.called = {}
        self.tried = 0

    def inverted(self, start):
        """Return the program that undoes the last block from a moment on."""
        for index, moments in enumerate(self.schedule.moments_of_blocks([start])):
            for moment in moments:
                block = self.block_undoing(index, moment)
                self.undoing[(index, moment)] = len(self.blocks)
                self.blocks.append(block)
        return Program(self.blocks, {name: index for index, name in self.called.items()})

    def block_undoing(self, index, moment):
        """Return the statements that undo a block from a moment on."""
        found = []
        for statement, before in reversed(self.schedule.steps(index, moment)):
            found.extend(self.statements_undoing(statement, before))
        return found

    def statements_undoing(self, statement, moment):
        """Return the statements that undo a statement at a moment."""
        match statement:
            case ("ticks", number):
                return [("back", number)]
            case ("back", number):
                return [("ticks", number)]
            case ("route", carrier, _):
                return [("route", carrier, moment[0][carrier])]
            case ("call", _, index):
                return [self.call_undoing(index, moment)]
            case ("repeat", rounds, index):
                return self.rounds_undoing(index, rounds, moment)
        return [statement]

    def rounds_undoing(self, index, rounds, moment):
        """Return the statements that undo so many rounds of a block from a moment on."""
        if rounds == 0:
            return []
        further = self.schedule.further_rounds(index, rounds, moment)
        if not further or further[0] == moment:
            return [("repeat", rounds, self.undoing[(index, moment)])]
        # The first round began with other routes than all later ones. Blocks are
        # called here: written out each time, nested repeats would become too long.
        self.blocks.append([self.call_undoing(index, further[0])])
        return [("repeat", rounds - 1, len(self.blocks) - 1), self.call_undoing(index, moment)]

    def call_undoing(self, index, moment):
        """Return the call of the block that undoes a block from a moment on."""
        block = self.undoing[(index, moment)]
        if block not in self.called:
            self.called[block] = self.new_name()
        return "call", 1, block

    def new_name(self):
        """Return a name that nothing has yet."""
        while True:
            name = name_with_number(self.tried)
            self.tried += 1
            if name not in self.others:
                return name


def name_with_number(number):
    """Return a name, for each number another one, that is no keyword."""
    letters = ""
    while number > 0:
        number, letter = divmod(number, len(LETTERS))
        letters = LETTERS[letter] + letters
    return "x" + letters
