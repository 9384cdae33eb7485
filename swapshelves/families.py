"""Families of parcels that follow one another, and meetings of two parcels."""

from math import lcm

from swapshelves.checks import check_ticks
from swapshelves.effects import cycle_from, inverse
from swapshelves.journeys import count_in_ticks
from swapshelves.laps import Lap
from swapshelves.plans import check_plan, shelves_of_places
from swapshelves.states import check_state, parcels_in, place_of_parcel, start_of_parcel


def follows_by(plan, state, one, other):
    """Return by how many ticks a parcel follows another one, or None."""
    start = start_of_parcel(plan, state, one)
    target = place_of_parcel(state, other)
    lap = Lap(plan, state[0])
    cycle = cycle_from(lap.effect, start)
    if target not in cycle:
        return None
    return lap.length * cycle.index(target)


def families(plan, state):
    """Return the list of all families, lists of parcels."""
    check_plan(plan)
    check_state(plan, state)
    parcels = parcels_in(state)
    # The parcel that follows is the one that a lap moves here: go back.
    back = inverse(Lap(plan, state[0]).effect)
    found = []
    done = {}
    for parcel in sorted(parcels):
        if parcel not in done:
            family = [parcels[place] for place in cycle_from(back, parcels.index(parcel))]
            for member in family:
                done[member] = True
            found.append(family)
    return found


def first_meeting(plan, state, one, other):
    """Return after how many ticks two parcels meet for the first time, or None."""
    start = start_of_parcel(plan, state, one)
    target = place_of_parcel(state, other)
    marks = marks_of_meetings(plan, state, start, target)
    # After the last tick both are where they are now.
    if marks[-1]:
        return 0
    if True not in marks:
        return None
    return marks.index(True) + 1


def ticks_together(plan, state, one, other, count):
    """Return after how many of a number of ticks two parcels meet."""
    start = start_of_parcel(plan, state, one)
    target = place_of_parcel(state, other)
    check_ticks(count)
    return count_in_ticks(marks_of_meetings(plan, state, start, target), True, count)


def never_met(plan, state, parcel):
    """Return the ascending list of all parcels that a parcel never meets."""
    start = start_of_parcel(plan, state, parcel)
    lap = Lap(plan, state[0])
    table = meetings_in_a_lap(plan, lap, start)
    found = []
    for place, other in enumerate(parcels_in(state)):
        if place != start and not ever_meet(lap.effect, table, start, place):
            found.append(other)
    return sorted(found)


def marks_of_meetings(plan, state, one, other):
    """Return whether the parcels of two places meet, after each tick until both are back."""
    lap = Lap(plan, state[0])
    rows = shelves_in_a_lap(plan, lap)
    marks = []
    for here, there in pairs_before_laps(lap.effect, one, other):
        marks.extend(marks_in_a_lap(rows[here], rows[there]))
    return marks


def shelves_in_a_lap(plan, lap):
    """Return a row for each place: its parcel's shelves after each tick, or None."""
    shelves = shelves_of_places(plan)
    return [[shelves[stop] for stop in stops[1:]] for stops in lap.stops]


def marks_in_a_lap(row, other):
    """Return for each tick whether two rows contain the same shelf."""
    return [shelf is not None and shelf == there for shelf, there in zip(row, other)]


def pairs_before_laps(effect, one, other):
    """Return the places of two parcels before each lap, until both are back."""
    first = cycle_from(effect, one)
    second = cycle_from(effect, other)
    laps = lcm(len(first), len(second))
    return [(first[int(index) % len(first)], second[int(index) % len(second)]) for index in range(laps)]


def meetings_in_a_lap(plan, lap, start):
    """Return a dict of rows: whom the parcel meets in a lap from each place of its cycle.

    The row for a place tells of each place whether the parcels that are at
    both of them before a lap meet in it.
    """
    rows = shelves_in_a_lap(plan, lap)
    table = {}
    for place in cycle_from(lap.effect, start):
        table[place] = [True in marks_in_a_lap(rows[place], row) for row in rows]
    return table


def ever_meet(effect, table, one, other):
    """Tell whether the parcels of two places meet in any lap."""
    for here, there in pairs_before_laps(effect, one, other):
        if table[here][there]:
            return True
    return False
