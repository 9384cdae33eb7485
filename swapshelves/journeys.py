"""Journeys: what happens to one parcel until it is back before another lap.

After that, its journey repeats. So lists with one item for each tick of a
journey tell about all ticks.
"""

from swapshelves.effects import cycle_from


def stops_of_journey(lap, start):
    """Return the numbers of the places of a parcel after each tick of its journey."""
    found = []
    for place in cycle_from(lap.effect, start):
        found.extend(lap.stops[place][1:])
    return found


def lefts_of_journey(lap, start):
    """Return the shelves on which a parcel is left in each tick, None where it is not."""
    found = []
    for place in cycle_from(lap.effect, start):
        found.extend(lap.lefts[place])
    return found


def count_in_ticks(row, wanted, count):
    """Return how often something stands in so many items of a row that repeats."""
    rounds, rest = divmod(count, len(row))
    return rounds * row.count(wanted) + row[:rest].count(wanted)
