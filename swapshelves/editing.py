"""Editing: plans and states with a parcel more or less, or with another route."""

from swapshelves.checks import is_within
from swapshelves.errors import InvalidParcels, ParcelCarried, ShelfFull
from swapshelves.plans import MOST_ON_SHELF, check_carrier, check_plan, check_routes, check_shelf, places_of
from swapshelves.states import LAST_PARCEL, check_state, parcels_in, start_of_parcel


def put_in(plan, state, shelf, parcel):
    """Return (plan, state) with a further parcel on a shelf, behind all others."""
    check_plan(plan)
    check_state(plan, state)
    check_shelf(plan, shelf)
    row = state[2][shelf]
    if len(row) == MOST_ON_SHELF:
        raise ShelfFull("a shelf that takes no further parcel")
    if not is_within(parcel, 1, LAST_PARCEL) or parcel in parcels_in(state):
        raise InvalidParcels("not a number from 1 to 999 that is not there yet")
    return with_row(plan, state, shelf, row + (parcel,))


def take_out(plan, state, parcel):
    """Return (plan, state) without a parcel that lies on a shelf."""
    start = start_of_parcel(plan, state, parcel)
    place = places_of(plan)[start]
    if place[0] == "carrier":
        raise ParcelCarried("a parcel that a carrier carries")
    _, shelf, position = place
    row = state[2][shelf]
    return with_row(plan, state, shelf, row[:position] + row[position + 1:])


def reroute(plan, carrier, route):
    """Return the plan in which a carrier has another route."""
    check_plan(plan)
    check_carrier(plan, carrier)
    sizes, routes = plan
    routes = replaced(routes, carrier, route)
    check_routes(routes, len(sizes))
    return sizes, routes


def with_row(plan, state, shelf, row):
    """Return (plan, state) in which other parcels are on a shelf."""
    sizes, routes = plan
    time, carried, shelves = state
    return (replaced(sizes, shelf, len(row)), routes), (time, carried, replaced(shelves, shelf, row))


def replaced(items, index, item):
    """Return a tuple with another item at an index."""
    return items[:index] + (item,) + items[index + 1:]
