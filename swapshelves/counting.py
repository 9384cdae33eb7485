"""Counting: how often, where and when a parcel is left, carried or on a shelf."""

from swapshelves.checks import check_between, check_ordinal, check_ticks
from swapshelves.journeys import count_in_ticks, lefts_of_journey, stops_of_journey
from swapshelves.laps import Lap
from swapshelves.plans import check_carrier, check_shelf, number_of_place, shelves_of_places
from swapshelves.states import start_of_parcel

MOST_STAMPS = 200


def times_left(plan, state, parcel, shelf, count):
    """Return how often a parcel is left on a shelf during a number of ticks."""
    start = start_of_parcel(plan, state, parcel)
    check_shelf(plan, shelf)
    check_ticks(count)
    return count_in_ticks(lefts_of_journey(Lap(plan, state[0]), start), shelf, count)


def ticks_carried(plan, state, parcel, carrier, count):
    """Return after how many of a number of ticks a carrier carries a parcel."""
    start = start_of_parcel(plan, state, parcel)
    check_carrier(plan, carrier)
    check_ticks(count)
    # Carriers are the first places, so each one's place has its number.
    return count_in_ticks(stops_of_journey(Lap(plan, state[0]), start), carrier, count)


def ticks_on_shelf(plan, state, parcel, shelf, count):
    """Return after how many of a number of ticks a parcel is on a shelf."""
    start = start_of_parcel(plan, state, parcel)
    check_shelf(plan, shelf)
    check_ticks(count)
    shelves = shelves_of_places(plan)
    row = [shelves[stop] for stop in stops_of_journey(Lap(plan, state[0]), start)]
    return count_in_ticks(row, shelf, count)


def nth_left(plan, state, parcel, shelf, number):
    """Return after how many ticks a parcel has been left on a shelf so often, or None."""
    start = start_of_parcel(plan, state, parcel)
    check_shelf(plan, shelf)
    check_ordinal(number)
    lefts = lefts_of_journey(Lap(plan, state[0]), start)
    ticks = [step + 1 for step, left in enumerate(lefts) if left == shelf]
    if not ticks:
        return None
    rounds, rest = divmod(number - 1, len(ticks))
    return rounds * len(lefts) + ticks[rest]


def stamps(plan, state, parcel, count):
    """Return the list of the first shelves on which a parcel is left."""
    start = start_of_parcel(plan, state, parcel)
    check_between(count, 0, MOST_STAMPS)
    shelves = stamps_of_journey(plan, state, start)
    if not shelves:
        return []
    return [shelves[int(index) % len(shelves)] for index in range(count)]


def stamp_at(plan, state, parcel, number):
    """Return the shelf on which a parcel is left for the time with a number, or None."""
    start = start_of_parcel(plan, state, parcel)
    check_ordinal(number)
    shelves = stamps_of_journey(plan, state, start)
    if not shelves:
        return None
    return shelves[(number - 1) % len(shelves)]


def stamps_of_journey(plan, state, start):
    """Return the shelves on which the parcel from a place is left in one journey."""
    return [left for left in lefts_of_journey(Lap(plan, state[0]), start) if left is not None]


def arrival(plan, state, parcel, place):
    """Return after how many ticks a parcel is at a place for the first time, or None."""
    start = start_of_parcel(plan, state, parcel)
    target = number_of_place(plan, place)
    if start == target:
        return 0
    stops = stops_of_journey(Lap(plan, state[0]), start)
    if target not in stops:
        return None
    return stops.index(target) + 1
