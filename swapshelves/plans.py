"""Plans: how many parcels the shelves hold, and where the carriers go."""

from math import lcm

from swapshelves.checks import is_within
from swapshelves.errors import InvalidPlan, UnknownCarrier, UnknownPlace, UnknownShelf

MOST_SHELVES = 12
MOST_ON_SHELF = 9
MOST_CARRIERS = 6
MOST_ENTRIES = 6


def pattern_length(plan):
    """Return the smallest number of ticks after which all visits repeat."""
    check_plan(plan)
    return common_pattern(plan[1])


def visits(plan, number):
    """Return the list of (carrier, shelf) for the tick with a number."""
    check_plan(plan)
    return visits_in_tick(plan[1], number)


def places(plan):
    """Return the list of all places: the carriers, then shelf by shelf."""
    check_plan(plan)
    return places_of(plan)


def check_plan(plan):
    """Raise InvalidPlan for the first fault of a plan."""
    sizes, routes = plan
    check_sizes(sizes)
    check_routes(routes, len(sizes))


def check_sizes(sizes):
    """Raise InvalidPlan for the first fault of the sizes."""
    if not 1 <= len(sizes) <= MOST_SHELVES:
        raise InvalidPlan("sizes", -1)
    for index, size in enumerate(sizes):
        if not is_within(size, 0, MOST_ON_SHELF):
            raise InvalidPlan("sizes", index)


def check_routes(routes, shelves):
    """Raise InvalidPlan for the first fault of the routes past so many shelves."""
    if not 1 <= len(routes) <= MOST_CARRIERS:
        raise InvalidPlan("routes", -1)
    for index, route in enumerate(routes):
        if not is_route(route, shelves):
            raise InvalidPlan("routes", index)


def is_route(route, shelves):
    """Tell whether something is a route past so many shelves."""
    if not isinstance(route, tuple) or not 1 <= len(route) <= MOST_ENTRIES:
        return False
    for entry in route:
        if entry is not None and not is_within(entry, 0, shelves - 1):
            return False
    return True


def places_of(plan):
    """Return the list of all places of a valid plan."""
    sizes, routes = plan
    found = [("carrier", carrier) for carrier in range(len(routes))]
    for shelf, size in enumerate(sizes):
        found.extend([("shelf", shelf, position) for position in range(size)])
    return found


def numbers_of_places(plan):
    """Return a dict of all places of a valid plan and their numbers."""
    return {place: number for number, place in enumerate(places_of(plan))}


def number_of_place(plan, place):
    """Return the number of a place of a valid plan, or raise UnknownPlace."""
    found = places_of(plan)
    if not is_place(found, place):
        raise UnknownPlace("a place that the plan does not have")
    return found.index(place)


def is_place(found, place):
    """Tell whether something is one of the places that were found in a plan."""
    return place in found and not has_truth_values(place)


def has_truth_values(place):
    """Tell whether True or False stands in a tuple, where it equals 1 or 0."""
    for part in place:
        if isinstance(part, bool):
            return True
    return False


def check_shelf(plan, shelf):
    """Raise UnknownShelf for the number of a shelf that a valid plan does not have."""
    if not is_within(shelf, 0, len(plan[0]) - 1):
        raise UnknownShelf("a shelf that the plan does not have")


def check_carrier(plan, carrier):
    """Raise UnknownCarrier for the number of a carrier that a valid plan does not have."""
    if not is_within(carrier, 0, len(plan[1]) - 1):
        raise UnknownCarrier("a carrier that the plan does not have")


def shelves_of_places(plan):
    """Return the list of the shelves of all places; None stands for a carrier."""
    return [place[1] if place[0] == "shelf" else None for place in places_of(plan)]


def number_of_places(plan):
    """Return how many places a valid plan has."""
    sizes, routes = plan
    return len(routes) + sum(sizes)


def visits_in_tick(routes, number):
    """Return the list of (carrier, shelf) by valid routes for a tick."""
    found = []
    for carrier, route in enumerate(routes):
        shelf = route[(number - 1) % len(route)]
        if shelf is not None:
            found.append((carrier, shelf))
    return found


def common_pattern(routes):
    """Return the smallest number of ticks after which valid routes repeat."""
    length = 1
    for route in routes:
        length = lcm(length, route_pattern(route))
    return length


def route_pattern(route):
    """Return the smallest number of entries after which a route repeats."""
    steps = 1
    while route[steps:] + route[:steps] != route:
        steps += 1
    return steps
