"""What is at the places of a valid plan, and how ticks exchange it.

What is exchanged is not looked at: parcels for states, numbers of places for
effects. So both follow from the same ticks.
"""

from swapshelves.plans import number_of_places, visits_in_tick


def join_layout(carried, shelves):
    """Return the list of what is at all places, in the order of the places."""
    contents = list(carried)
    for shelf in shelves:
        contents.extend(shelf)
    return contents


def split_layout(plan, contents):
    """Return (carried, shelves), tuples, of a list of what is at all places."""
    sizes, routes = plan
    start = len(routes)
    carried = tuple(contents[:start])
    shelves = []
    for size in sizes:
        shelves.append(tuple(contents[start:start + size]))
        start += size
    return carried, tuple(shelves)


def after_tick(plan, number, carried, shelves):
    """Return (carried, shelves, exchanges), new tuples and a list, after a tick."""
    hands = list(carried)
    rows = [list(shelf) for shelf in shelves]
    exchanges = []
    for carrier, shelf in visits_in_tick(plan[1], number):
        left = hands[carrier]
        # Leaving comes first: on a shelf of size 0 the same one is taken back.
        rows[shelf].append(left)
        taken = rows[shelf].pop(0)
        hands[carrier] = taken
        exchanges.append((carrier, shelf, left, taken))
    return tuple(hands), tuple([tuple(row) for row in rows]), exchanges


def origins_after_tick(plan, number):
    """Return (origins, exchanges) of a tick: whence what is at each place has come.

    Origins, also those in the exchanges, are numbers of places.
    """
    carried, shelves = split_layout(plan, list(range(number_of_places(plan))))
    carried, shelves, exchanges = after_tick(plan, number, carried, shelves)
    return join_layout(carried, shelves), exchanges
