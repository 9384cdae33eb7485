"""Programs as blocks of statements, put together in the order of the text.

A statement is a tuple:

    ("ticks", number) or ("back", number)
    ("swap", place, place)
    ("route", carrier, entries), the entries as in a plan
    ("repeat", rounds, index of its block)
    ("call", 1, index of the definition's block)

So a call is like a block that is repeated once. A block stands behind all
blocks that its statements name: who goes through the blocks in their order
meets a block when all that happens in it is known, without any recursion.
"""

KEYWORDS = ("ticks", "back", "swap", "route", "repeat", "call", "define", "carrier", "shelf", "rest")


class Program:
    """The blocks of a program, and the definitions among them.

    `blocks` is a list of lists of statements; the last block is performed.
    `names` is a dict of the names of all definitions, in their order, and the
    indexes of their blocks.
    """

    def __init__(self, blocks, names):
        self.blocks = blocks
        self.names = names


class Builder:
    """Puts a program together.

    `rows` contains the statements of the blocks that have begun and have not
    ended, the outermost first. `heads` tells for each of them but the first
    whose block it is: ("define", name) or ("repeat", rounds).
    """

    def __init__(self):
        self.blocks = []
        self.names = {}
        self.rows = [[]]
        self.heads = []

    def add(self, statement):
        """Add a statement to the innermost block."""
        self.rows[-1].append(statement)

    def begin(self, word, what):
        """Begin the block of a definition or of a repeat."""
        self.heads.append((word, what))
        self.rows.append([])

    def end(self):
        """End the innermost block."""
        word, what = self.heads.pop()
        self.blocks.append(self.rows.pop())
        index = len(self.blocks) - 1
        if word == "define":
            self.names[what] = index
        else:
            self.add((word, what, index))

    def finished(self):
        """Return the program when all its blocks have ended."""
        return Program(self.blocks + self.rows, self.names)


def signed_ticks(statement):
    """Return the ticks of a statement `ticks` or `back`, negative ones for `back`."""
    word, number = statement
    return number if word == "ticks" else -number
