"""Laps: what the ticks of one whole pattern do to the parcels at all places.

After a lap all carriers are where they were. So a parcel that is at some place
before a lap goes the same way in each lap that begins at that place, and
everything about far ticks follows from a single lap.
"""

from swapshelves.layouts import after_tick, join_layout, split_layout
from swapshelves.plans import common_pattern, number_of_places


class Lap:
    """The ticks of one pattern of a valid plan from a time on.

    `length` is their number, `effect` what they do together. `stops` and
    `lefts` have a row for each place, for the parcel that is there at first.
    The row of `stops` contains the numbers of its places, after 0 ticks and
    after each tick; the row of `lefts` contains, for each tick, the shelf on
    which the parcel is left, or None.
    """

    def __init__(self, plan, time):
        self.length = common_pattern(plan[1])
        origins = list(range(number_of_places(plan)))
        self.stops = [[place] for place in origins]
        self.lefts = [[] for _ in origins]
        carried, shelves = split_layout(plan, origins)
        for step in range(self.length):
            carried, shelves, exchanges = after_tick(plan, time + step + 1, carried, shelves)
            # A tick leaves a parcel once at most: who takes it has acted.
            lefts = {left: shelf for _, shelf, left, _ in exchanges}
            for place, origin in enumerate(join_layout(carried, shelves)):
                self.stops[origin].append(place)
                self.lefts[origin].append(lefts.get(origin))
        self.effect = tuple([row[-1] for row in self.stops])
