"""Effects: to which places the parcels at all places move."""

from math import lcm

from swapshelves.checks import check_count, is_within
from swapshelves.errors import DifferentSizes, InvalidEffect
from swapshelves.laps import Lap
from swapshelves.plans import check_plan


def effect_of(plan, time, count):
    """Return the effect of a number of ticks on states with a time."""
    check_plan(plan)
    check_count(count)
    return effect_of_ticks(plan, time, count)


def compose(one, other):
    """Return the effect of one effect followed by another."""
    check_effect(one)
    check_effect(other)
    if len(one) != len(other):
        raise DifferentSizes("effects of different lengths")
    return chained(one, other)


def invert(effect):
    """Return the effect that undoes an effect."""
    check_effect(effect)
    return inverse(effect)


def repeat(effect, count):
    """Return the effect of an effect that happens a number of times."""
    check_effect(effect)
    check_count(count)
    return repeated(effect, count)


def cycles(effect):
    """Return the list of the cycles of an effect, tuples in ascending order."""
    check_effect(effect)
    return cycles_of(effect)


def order(effect):
    """Return the smallest number of times after which an effect moves nothing."""
    check_effect(effect)
    return order_of(effect)


def check_effect(effect):
    """Raise InvalidEffect for what is no effect."""
    if not is_effect(effect):
        raise InvalidEffect("not a tuple with each number from 0 on once")


def is_effect(effect):
    """Tell whether something is an effect."""
    if not isinstance(effect, tuple):
        return False
    for number in effect:
        if not is_within(number, 0, len(effect) - 1):
            return False
    return len(set(effect)) == len(effect)


def effect_of_ticks(plan, time, count):
    """Return the effect of a number of ticks of a valid plan."""
    # Laps that begin at the time and those that end there have one effect. So
    # negative counts need no case of their own: a lap too many back, and the
    # rest forward again.
    lap = Lap(plan, time)
    laps, rest = divmod(count, lap.length)
    return tuple([lap.stops[place][rest] for place in repeated(lap.effect, laps)])


def chained(one, other):
    """Return the effect of one valid effect followed by another, equally long one."""
    return tuple([other[place] for place in one])


def inverse(effect):
    """Return the effect that undoes a valid effect."""
    origins = [0] * len(effect)
    for place, target in enumerate(effect):
        origins[target] = place
    return tuple(origins)


def repeated(effect, count):
    """Return the effect of a valid effect that happens a number of times."""
    targets = list(effect)
    for cycle in cycles_of(effect):
        shift = int(count) % len(cycle)
        for place, target in zip(cycle, cycle[shift:] + cycle[:shift]):
            targets[place] = target
    return tuple(targets)


def order_of(effect):
    """Return after how many times a valid effect moves nothing."""
    times = 1
    for cycle in cycles_of(effect):
        times = lcm(times, len(cycle))
    return times


def cycles_of(effect):
    """Return the list of the cycles of a valid effect."""
    found = []
    done = [False] * len(effect)
    for start in range(len(effect)):
        if not done[start]:
            cycle = cycle_from(effect, start)
            for place in cycle:
                done[place] = True
            found.append(cycle)
    return found


def cycle_from(effect, start):
    """Return the cycle of a valid effect that contains a place, from there on."""
    cycle = [start]
    place = effect[start]
    while place != start:
        cycle.append(place)
        place = effect[place]
    return tuple(cycle)
