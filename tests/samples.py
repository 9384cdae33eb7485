"""Plans, states and a slow model of the ticks, for several test files."""

from random import Random

from swapshelves.errors import InvalidPlan, InvalidState, UnknownParcel
from swapshelves.plans import places
from swapshelves.states import tick

MOST = 10 ** 18

PLAN = ((1, 2), ((0, 1), (1,)))
STATE = (0, (1, 2), ((3,), (4, 5)))

# A shelf of size 0, rests, routes of several lengths, carriers who meet.
BUSY = ((0, 3, 9, 1), ((1, 2, None), (1,), (2, 0, 3, 1), (None, 2), (2, 2, 3, None, 1)))
IDLE = ((2, 0), ((None,), (None, None, None)))
ALONE = ((0,), ((0,),))
NOTHING_MOVES = ((0, 0, 0), ((0, 2), (None,), (2, 1, 0)))

# In its first tick carrier 1 takes what carrier 0 has left a moment before.
HANDED_ON = ((1, 0, 2), ((0, 2), (0, 1, None), (2, 0, 0, 0), (None, 1)))

SAMPLES = (PLAN, BUSY, IDLE, ALONE, NOTHING_MOVES)


def random_plan(seed):
    """Return a plan; the same one for the same seed."""
    source = Random(seed)
    sizes = tuple(source.randint(0, 9) for _ in range(source.randint(1, 12)))
    entries = [None] + list(range(len(sizes)))
    routes = []
    for _ in range(source.randint(1, 6)):
        routes.append(tuple(source.choice(entries) for _ in range(source.randint(1, 6))))
    return sizes, tuple(routes)


def all_plans():
    """Return the list of the plans above and of some random ones."""
    return list(SAMPLES) + [random_plan(seed) for seed in range(25)]


def periodic_plans():
    """Return a list of plans whose whole periods are short enough for single ticks."""
    chosen = [random_plan(seed) for seed in (1, 2, 6, 10, 14, 15, 18, 21, 22, 23)]
    return list(SAMPLES) + [HANDED_ON] + chosen


def fill(plan, time, parcels):
    """Return the state with a time and with parcels in the order of the places."""
    sizes, routes = plan
    rest = list(parcels)
    carried = tuple(rest.pop(0) for _ in routes)
    shelves = tuple(tuple(rest.pop(0) for _ in range(size)) for size in sizes)
    return time, carried, shelves


def parcels_of(state):
    """Return the list of the parcels of a state in the order of the places."""
    return list(state[1]) + [parcel for shelf in state[2] for parcel in shelf]


def slow_tick(plan, state):
    """Return (state, exchanges) after a tick, as point 4 tells it."""
    time, carried, shelves = state
    number = time + 1
    carried = list(carried)
    queues = [list(shelf) for shelf in shelves]
    exchanges = []
    for carrier in range(len(plan[1])):
        route = plan[1][carrier]
        shelf = route[(number - 1) % len(route)]
        if shelf is None:
            continue
        queue = queues[shelf] + [carried[carrier]]
        exchanges.append((carrier, shelf, carried[carrier], queue[0]))
        carried[carrier] = queue[0]
        queues[shelf] = queue[1:]
    return (number, tuple(carried), tuple(tuple(queue) for queue in queues)), exchanges


def slow_effect(plan, time, count):
    """Return the effect of 0 or more ticks, each of them performed."""
    many = len(plan[1]) + sum(plan[0])
    state = fill(plan, time, range(1, many + 1))
    for _ in range(count):
        state, _ = slow_tick(plan, state)
    later = parcels_of(state)
    return tuple(later.index(parcel) for parcel in range(1, many + 1))


def scattered(plan, time):
    """Return a state of a plan in which the parcels stand in no order."""
    many = len(plan[1]) + sum(plan[0])
    return fill(plan, time, [1 + at * 365 % 997 for at in range(1, many + 1)])


class History:
    """What happens to all parcels in so many single ticks.

    `states`, `where` (dicts of parcels and their places) and `lefts` (lists of
    a parcel and the shelf on which it is left) have an item for each tick; the
    item with index 0 tells of the state before the first tick.
    """

    def __init__(self, plan, state, count):
        self.states = [state]
        self.lefts = [[]]
        for _ in range(count):
            state, exchanges = tick(plan, state)
            self.states.append(state)
            self.lefts.append([(left, shelf) for _, shelf, left, _ in exchanges])
        known = places(plan)
        self.where = [dict(zip(parcels_of(now), known)) for now in self.states]

    def stamps(self, parcel):
        """Return the list of (tick, shelf) at which a parcel is left."""
        found = []
        for number, lefts in enumerate(self.lefts):
            found.extend([(number, shelf) for left, shelf in lefts if left == parcel])
        return found

    def shelf(self, parcel, number):
        """Return the shelf of a parcel after a number of ticks; None if it is carried."""
        place = self.where[number][parcel]
        return place[1] if place[0] == "shelf" else None


def assert_errors_in_order(case, function, good, faults):
    """Assert that each fault raises its error, also with each fault that comes later.

    A fault is (index of the argument, wrong value, error); the faults are in
    the order in which the interface tells their errors.
    """
    function(*good)
    for first, (index, wrong, error) in enumerate(faults):
        for later, further, _ in [(index, wrong, error)] + faults[first + 1:]:
            values = list(good)
            values[later] = further
            values[index] = wrong
            told = f"{function.__name__} with faults in the arguments {index} and {later}"
            with case.assertRaises(error, msg=told):
                function(*values)


WRONG_PLAN = ((1, 10), ((0, 1), (1,)))
WRONG_STATE = (0, (1, 2), ((3,), (4, 4)))
FAULTS_OF_PLAN_AND_STATE = [(0, WRONG_PLAN, InvalidPlan), (1, WRONG_STATE, InvalidState)]


def unknown_parcels(index):
    """Return the faults of a parcel of STATE that is the argument with an index."""
    return [(index, parcel, UnknownParcel) for parcel in (6, 0, -1, 999, 1000, 10 ** 5000, None, True)]
