"""States: a time, and which parcels are carried and on the shelves."""

from swapshelves.checks import is_within
from swapshelves.effects import check_effect
from swapshelves.errors import DifferentSizes, InvalidState
from swapshelves.layouts import after_tick, join_layout, split_layout
from swapshelves.plans import check_plan, number_of_places

TIME_LIMIT = 10 ** 30
LAST_PARCEL = 999


def initial_state(plan):
    """Return the state with time 0 and parcels in the order of the places."""
    check_plan(plan)
    parcels = list(range(1, number_of_places(plan) + 1))
    carried, shelves = split_layout(plan, parcels)
    return 0, carried, shelves


def tick(plan, state):
    """Return (state, exchanges) after the next tick."""
    check_plan(plan)
    check_state(plan, state)
    time, carried, shelves = state
    carried, shelves, exchanges = after_tick(plan, time + 1, carried, shelves)
    return (time + 1, carried, shelves), exchanges


def apply_effect(plan, state, effect):
    """Return the state with the same time in which all parcels have moved."""
    check_plan(plan)
    check_state(plan, state)
    check_effect(effect)
    if len(effect) != number_of_places(plan):
        raise DifferentSizes("an effect for another number of places")
    time, carried, shelves = state
    before = join_layout(carried, shelves)
    after = list(before)
    for parcel, target in zip(before, effect):
        after[target] = parcel
    carried, shelves = split_layout(plan, after)
    return time, carried, shelves


def check_state(plan, state):
    """Raise InvalidState for what is no state of a valid plan."""
    if not isinstance(state, tuple) or len(state) != 3:
        raise InvalidState("not a tuple of time, carried and shelves")
    time, carried, shelves = state
    if not is_within(time, -TIME_LIMIT, TIME_LIMIT):
        raise InvalidState("the time is not from -10 ** 30 to 10 ** 30")
    if not fits_plan(plan, carried, shelves):
        raise InvalidState("parcels for another plan")
    if not are_parcels(join_layout(carried, shelves)):
        raise InvalidState("parcels that are not different numbers from 1 to 999")


def fits_plan(plan, carried, shelves):
    """Tell whether so many parcels are carried and on the shelves as a plan says."""
    sizes, routes = plan
    if not is_tuple_of(carried, len(routes)) or not is_tuple_of(shelves, len(sizes)):
        return False
    for size, shelf in zip(sizes, shelves):
        if not is_tuple_of(shelf, size):
            return False
    return True


def is_tuple_of(row, length):
    """Tell whether something is a tuple with so many items."""
    return isinstance(row, tuple) and len(row) == length


def are_parcels(parcels):
    """Tell whether the items of a list are parcels, all different."""
    for parcel in parcels:
        if not is_within(parcel, 1, LAST_PARCEL):
            return False
    return len(set(parcels)) == len(parcels)
