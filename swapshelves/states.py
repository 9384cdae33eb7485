"""States: a time, and which parcels are carried and on the shelves."""

from swapshelves.checks import is_within
from swapshelves.effects import check_effect
from swapshelves.errors import DifferentSizes, InvalidState, UnknownParcel
from swapshelves.layouts import after_tick, join_layout, split_layout
from swapshelves.plans import check_plan, number_of_places

TIME_LIMIT = 10 ** 30
LAST_PARCEL = 999


def initial_state(plan):
    """Return the state with time 0 and parcels in the order of the places."""
    check_plan(plan)
    return state_of(plan, 0, list(range(1, number_of_places(plan) + 1)))


def tick(plan, state):
    """Return (state, exchanges) after the next tick."""
    check_plan(plan)
    check_state(plan, state)
    time, carried, shelves = state
    carried, shelves, exchanges = after_tick(plan, time + 1, carried, shelves)
    return (time + 1, carried, shelves), exchanges


def apply_effect(plan, state, effect):
    """Return the state with the same time in which all parcels have moved."""
    check_plan(plan)
    check_state(plan, state)
    check_effect(effect)
    if len(effect) != number_of_places(plan):
        raise DifferentSizes("an effect for another number of places")
    return moved(plan, state, effect)


def moved(plan, state, effect):
    """Return a valid state in which all parcels have moved by an effect of its plan."""
    before = parcels_in(state)
    after = list(before)
    for parcel, target in zip(before, effect):
        after[target] = parcel
    return state_of(plan, state[0], after)


def state_of(plan, time, parcels):
    """Return the state with a time and with parcels in the order of the places."""
    carried, shelves = split_layout(plan, parcels)
    return time, carried, shelves


def parcels_in(state):
    """Return the list of the parcels of a valid state, in the order of the places."""
    _, carried, shelves = state
    return join_layout(carried, shelves)


def check_state(plan, state):
    """Raise InvalidState for what is no state of a valid plan."""
    if not isinstance(state, tuple) or len(state) != 3:
        raise InvalidState("not a tuple of time, carried and shelves")
    time, carried, shelves = state
    if not is_within(time, -TIME_LIMIT, TIME_LIMIT):
        raise InvalidState("the time is not from -10 ** 30 to 10 ** 30")
    if not fits_plan(plan, carried, shelves):
        raise InvalidState("parcels for another plan")
    if not are_parcels(join_layout(carried, shelves)):
        raise InvalidState("parcels that are not different numbers from 1 to 999")


def fits_plan(plan, carried, shelves):
    """Tell whether so many parcels are carried and on the shelves as a plan says."""
    sizes, routes = plan
    if not is_tuple_of(carried, len(routes)) or not is_tuple_of(shelves, len(sizes)):
        return False
    for size, shelf in zip(sizes, shelves):
        if not is_tuple_of(shelf, size):
            return False
    return True


def is_tuple_of(row, length):
    """Tell whether something is a tuple with so many items."""
    return isinstance(row, tuple) and len(row) == length


def are_parcels(parcels):
    """Tell whether the items of a list are parcels, all different."""
    for parcel in parcels:
        if not is_within(parcel, 1, LAST_PARCEL):
            return False
    return len(set(parcels)) == len(parcels)


def are_ascending_parcels(parcels, many):
    """Tell whether something is an ascending tuple of so many parcels."""
    if not is_tuple_of(parcels, many) or not are_parcels(parcels):
        return False
    return list(parcels) == sorted(parcels)


def check_parcel(parcels, parcel):
    """Raise UnknownParcel for what is none of the parcels."""
    if not is_within(parcel, 1, LAST_PARCEL) or parcel not in parcels:
        raise UnknownParcel("a parcel that is not there")


def place_of_parcel(state, parcel):
    """Return the number of the place of a parcel, or raise UnknownParcel."""
    parcels = parcels_in(state)
    check_parcel(parcels, parcel)
    return parcels.index(parcel)


def start_of_parcel(plan, state, parcel):
    """Check a plan, a state and a parcel, and return the number of the parcel's place."""
    check_plan(plan)
    check_state(plan, state)
    return place_of_parcel(state, parcel)
