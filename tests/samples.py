"""Plans, states and a slow model of the ticks, for several test files."""

from random import Random

PLAN = ((1, 2), ((0, 1), (1,)))
STATE = (0, (1, 2), ((3,), (4, 5)))

# A shelf of size 0, rests, routes of several lengths, carriers who meet.
BUSY = ((0, 3, 9, 1), ((1, 2, None), (1,), (2, 0, 3, 1), (None, 2), (2, 2, 3, None, 1)))
IDLE = ((2, 0), ((None,), (None, None, None)))
ALONE = ((0,), ((0,),))
NOTHING_MOVES = ((0, 0, 0), ((0, 2), (None,), (2, 1, 0)))

SAMPLES = (PLAN, BUSY, IDLE, ALONE, NOTHING_MOVES)


def random_plan(seed):
    """Return a plan; the same one for the same seed."""
    source = Random(seed)
    sizes = tuple(source.randint(0, 9) for _ in range(source.randint(1, 12)))
    entries = [None] + list(range(len(sizes)))
    routes = []
    for _ in range(source.randint(1, 6)):
        routes.append(tuple(source.choice(entries) for _ in range(source.randint(1, 6))))
    return sizes, tuple(routes)


def all_plans():
    """Return the list of the plans above and of some random ones."""
    return list(SAMPLES) + [random_plan(seed) for seed in range(25)]


def fill(plan, time, parcels):
    """Return the state with a time and with parcels in the order of the places."""
    sizes, routes = plan
    rest = list(parcels)
    carried = tuple(rest.pop(0) for _ in routes)
    shelves = tuple(tuple(rest.pop(0) for _ in range(size)) for size in sizes)
    return time, carried, shelves


def parcels_of(state):
    """Return the list of the parcels of a state in the order of the places."""
    return list(state[1]) + [parcel for shelf in state[2] for parcel in shelf]


def slow_tick(plan, state):
    """Return (state, exchanges) after a tick, as point 4 tells it."""
    time, carried, shelves = state
    number = time + 1
    carried = list(carried)
    queues = [list(shelf) for shelf in shelves]
    exchanges = []
    for carrier in range(len(plan[1])):
        route = plan[1][carrier]
        shelf = route[(number - 1) % len(route)]
        if shelf is None:
            continue
        queue = queues[shelf] + [carried[carrier]]
        exchanges.append((carrier, shelf, carried[carrier], queue[0]))
        carried[carrier] = queue[0]
        queues[shelf] = queue[1:]
    return (number, tuple(carried), tuple(tuple(queue) for queue in queues)), exchanges


def slow_effect(plan, time, count):
    """Return the effect of 0 or more ticks, each of them performed."""
    many = len(plan[1]) + sum(plan[0])
    state = fill(plan, time, range(1, many + 1))
    for _ in range(count):
        state, _ = slow_tick(plan, state)
    later = parcels_of(state)
    return tuple(later.index(parcel) for parcel in range(1, many + 1))
