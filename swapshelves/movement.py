"""Movement: where parcels are after, or before, a number of ticks."""

from swapshelves.checks import check_count
from swapshelves.effects import cycle_from, effect_of_ticks, order_of
from swapshelves.laps import Lap
from swapshelves.plans import check_plan, number_of_place, places_of
from swapshelves.states import check_state, moved, parcels_in, start_of_parcel


def advance(plan, state, count):
    """Return the state after a number of ticks, which may be negative."""
    check_plan(plan)
    check_state(plan, state)
    check_count(count)
    time, carried, shelves = moved(plan, state, effect_of_ticks(plan, state[0], count))
    return time + count, carried, shelves


def locate(plan, state, parcel, count):
    """Return the place of a parcel after a number of ticks."""
    start = start_of_parcel(plan, state, parcel)
    check_count(count)
    return places_of(plan)[effect_of_ticks(plan, state[0], count)[start]]


def parcel_at(plan, state, place, count):
    """Return the parcel that is at a place after a number of ticks."""
    check_plan(plan)
    check_state(plan, state)
    target = number_of_place(plan, place)
    check_count(count)
    return parcels_in(state)[effect_of_ticks(plan, state[0], count).index(target)]


def return_time(plan, state, parcel):
    """Return after how many ticks of whole patterns a parcel is at its place again."""
    start = start_of_parcel(plan, state, parcel)
    lap = Lap(plan, state[0])
    return lap.length * len(cycle_from(lap.effect, start))


def period(plan, state):
    """Return after how many ticks of whole patterns all parcels are at their places again."""
    check_plan(plan)
    check_state(plan, state)
    lap = Lap(plan, state[0])
    return lap.length * order_of(lap.effect)
