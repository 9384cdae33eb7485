"""Tallies: the counts of all shelves in a single number.

Each shelf has a worth, so much larger than those before it that the sum of all
counts, each times its worth, tells every count. What adds, negates and
multiplies such sums does so with all counts at once.
"""


def worths_of_shelves(many, most):
    """Return the worths of so many shelves, for counts from -most to most."""
    worths = []
    worth = 1
    for _ in range(many):
        worths.append(worth)
        worth *= 2 * most + 1
    return worths


def counts_in(tally, worths):
    """Return the list of the counts of all shelves that make up a tally."""
    counts = []
    for worth in worths[::-1]:
        # The counts of all lower shelves together are less than half of its worth.
        count = (2 * tally + worth) // (2 * worth)
        counts.append(count)
        tally -= count * worth
    return counts[::-1]
