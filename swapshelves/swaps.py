"""Swaps: exchanges by hand that lead to an arrangement; and where two plans differ."""

from math import lcm

from swapshelves.checks import check_count
from swapshelves.effects import effect_of_ticks
from swapshelves.errors import DifferentSizes, InvalidArrangement, InvalidSwap
from swapshelves.layouts import origins_after_tick
from swapshelves.plans import check_plan, common_pattern, is_place, places_of
from swapshelves.states import are_parcels, check_state, is_tuple_of, parcels_in, state_of


def arrangement(plan, state):
    """Return the arrangement of a state."""
    check_plan(plan)
    check_state(plan, state)
    return tuple(parcels_in(state))


def plan_swaps(plan, state, goal, count):
    """Return a shortest list of swaps after which a number of ticks leads to a goal."""
    check_plan(plan)
    check_state(plan, state)
    parcels = parcels_in(state)
    check_arrangement(parcels, goal)
    check_count(count)
    effect = effect_of_ticks(plan, state[0], count)
    return swaps_between(places_of(plan), parcels, [goal[target] for target in effect])


def fewest_swaps(plan, state, goal, count):
    """Return the length of a shortest list of swaps."""
    return len(plan_swaps(plan, state, goal, count))


def swap_all(plan, state, swaps):
    """Return the state after a list of swaps."""
    check_plan(plan)
    check_state(plan, state)
    found = places_of(plan)
    parcels = parcels_in(state)
    for index, swap in enumerate(swaps):
        if not is_swap(found, swap):
            raise InvalidSwap(index)
        exchange(parcels, found.index(swap[0]), found.index(swap[1]))
    return state_of(plan, state[0], parcels)


def first_difference(plan, other, time):
    """Return the smallest number of ticks whose effects differ, or None."""
    check_plan(plan)
    check_plan(other)
    if plan[0] != other[0] or len(plan[1]) != len(other[1]):
        raise DifferentSizes("plans with other sizes or another number of carriers")
    # As long as all ticks were equal, the effects differ where the next tick does.
    for count in range(1, lcm(common_pattern(plan[1]), common_pattern(other[1])) + 1):
        origins, _ = origins_after_tick(plan, time + count)
        others, _ = origins_after_tick(other, time + count)
        if origins != others:
            return count
    return None


def check_arrangement(parcels, goal):
    """Raise InvalidArrangement for what does not consist of the given parcels."""
    if not is_tuple_of(goal, len(parcels)) or not are_parcels(goal) or sorted(goal) != sorted(parcels):
        raise InvalidArrangement("not a tuple of the parcels of the state")


def swaps_between(found, parcels, wanted):
    """Return a shortest list of swaps that make one list of parcels another.

    Each swap brings a parcel where it is wanted for good. So every cycle of
    parcels takes one swap less than it has places, and no list is shorter.
    """
    now = list(parcels)
    swaps = []
    for place, parcel in enumerate(wanted):
        if now[place] != parcel:
            other = now.index(parcel)
            exchange(now, place, other)
            swaps.append((found[place], found[other]))
    return swaps


def is_swap(found, swap):
    """Tell whether something is a tuple of two different places of those found."""
    if not is_tuple_of(swap, 2):
        return False
    one, other = swap
    return is_place(found, one) and is_place(found, other) and one != other


def exchange(contents, one, other):
    """Exchange two items of a list."""
    contents[one], contents[other] = contents[other], contents[one]
