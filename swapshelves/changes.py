"""Changes: where ticks and swaps move the parcels, and where they leave them."""

from swapshelves.effects import chained, cycles_of, inverse, repeated
from swapshelves.layouts import origins_after_tick
from swapshelves.plans import common_pattern


class Change:
    """What happens to the parcels at all places.

    `effect` tells where they move. `lefts` has a number for each place: the sum
    of the worths of the shelves on which its parcel is left, each as often as
    that happens. Ticks that are undone count negatively.
    """

    def __init__(self, effect, lefts):
        self.effect = effect
        self.lefts = lefts

    def then(self, other):
        """Return this change followed by another one."""
        lefts = [worth + other.lefts[target] for worth, target in zip(self.lefts, self.effect)]
        return Change(chained(self.effect, other.effect), lefts)

    def undone(self):
        """Return the change that undoes this one."""
        back = inverse(self.effect)
        return Change(back, [-self.lefts[origin] for origin in back])

    def times(self, many):
        """Return this change so many times; negative numbers undo it."""
        return Change(repeated(self.effect, many), lefts_in_rounds(self.lefts, self.effect, many))


def lefts_in_rounds(lefts, effect, many):
    """Return the lefts of so many rounds, given those and the effect of one round.

    In each round, a parcel adds the number of the place where it is then, and
    goes on along its cycle.
    """
    found = list(lefts)
    # Where nothing is left, or nothing counts, the cycles need not be looked for.
    if not any(lefts):
        return found
    for cycle in cycles_of(effect):
        laps, rest = divmod(many, len(cycle))
        sums = [0]
        for place in cycle + cycle:
            sums.append(sums[-1] + lefts[place])
        for at, place in enumerate(cycle):
            found[place] = laps * sums[len(cycle)] + sums[at + rest] - sums[at]
    return found


class Wheel:
    """Changes that happen one after another, round and round.

    `sums` tells what the first ones do together: none, one, two and so on, up
    to all of them. `laps` tells what some numbers of whole rounds do, those
    that were asked for: wherever one starts, equal numbers of changes need one
    of two numbers of rounds.
    """

    def __init__(self, idle, steps):
        self.laps = {0: idle}
        self.sums = [idle]
        for step in steps:
            self.sums.append(self.sums[-1].then(step))

    def turn(self, start, many):
        """Return what so many changes do from the one with an index on; negative numbers undo."""
        return self.first(start).undone().then(self.first(start + many))

    def first(self, many):
        """Return what so many changes do from the first one on."""
        laps, rest = divmod(many, len(self.sums) - 1)
        if laps not in self.laps:
            self.laps[laps] = self.sums[-1].times(laps)
        return self.laps[laps].then(self.sums[rest])


def idle_change(many):
    """Return the change of so many places in which nothing happens."""
    return Change(tuple(range(many)), [0] * many)


def wheel_of_ticks(plan, worths):
    """Return the wheel of the ticks of a valid plan from time 0 on, given the worth of each shelf."""
    steps = []
    for number in range(1, common_pattern(plan[1]) + 1):
        origins, exchanges = origins_after_tick(plan, number)
        lefts = [0] * len(origins)
        for _, shelf, left, _ in exchanges:
            lefts[left] += worths[shelf]
        steps.append(Change(inverse(origins), lefts))
    return Wheel(idle_change(len(steps[0].effect)), steps)
