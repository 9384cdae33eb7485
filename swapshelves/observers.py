"""Observers: what can be concluded from seeing parcels at places and at shelves."""

from swapshelves.checks import check_count, check_ticks
from swapshelves.effects import effect_of_ticks
from swapshelves.errors import Contradiction, InvalidParcels
from swapshelves.journeys import lefts_of_journey
from swapshelves.laps import Lap
from swapshelves.plans import check_plan, check_shelf, number_of_place, number_of_places, places_of
from swapshelves.states import are_ascending_parcels, check_parcel


class Observer:
    """Knows a plan, a time and which parcels there are, and records where they are seen.

    `known` contains for each place the parcel that is there at the time of
    the observer, or None.
    """

    def __init__(self, plan, time, parcels):
        check_plan(plan)
        many = number_of_places(plan)
        if not are_ascending_parcels(parcels, many):
            raise InvalidParcels("not an ascending tuple with a parcel for each place")
        self.plan = plan
        self.time = time
        self.parcels = parcels
        self.known = with_the_last([None] * many, parcels)
        self.accepted = []

    def see(self, place, count, parcel):
        """Record an observation, and return the number of places that are known."""
        target = number_of_place(self.plan, place)
        check_count(count)
        check_parcel(self.parcels, parcel)
        origin = effect_of_ticks(self.plan, self.time, count).index(target)
        if contradicts(self.known, origin, parcel):
            raise Contradiction("the parcel or the place is known to be otherwise")
        self.known[origin] = parcel
        self.known = with_the_last(self.known, self.parcels)
        self.accepted.append((place, count, parcel))
        return len(self.known) - self.known.count(None)

    def known_places(self):
        """Return the list of (place, parcel) for all places that are known."""
        found = []
        for place, parcel in zip(places_of(self.plan), self.known):
            if parcel is not None:
                found.append((place, parcel))
        return found

    def where(self, parcel, count):
        """Return the place of a parcel after a number of ticks, or None."""
        check_parcel(self.parcels, parcel)
        check_count(count)
        if parcel not in self.known:
            return None
        effect = effect_of_ticks(self.plan, self.time, count)
        return places_of(self.plan)[effect[self.known.index(parcel)]]

    def what(self, place, count):
        """Return the parcel that is at a place after a number of ticks, or None."""
        target = number_of_place(self.plan, place)
        check_count(count)
        return self.known[effect_of_ticks(self.plan, self.time, count).index(target)]

    def records(self):
        """Return the list of all accepted observations."""
        return list(self.accepted)


def contradicts(known, number, parcel):
    """Tell whether a parcel cannot be at the place with a number."""
    if known[number] is None:
        return parcel in known
    return known[number] != parcel


def with_the_last(known, parcels):
    """Return what is known of all places, with the last one if it alone is missing."""
    missing = [parcel for parcel in parcels if parcel not in known]
    if len(missing) != 1:
        return known
    return [missing[0] if parcel is None else parcel for parcel in known]


def watched(plan, time, shelf, count):
    """Return the numbers of the places whose parcels are left on a shelf."""
    check_plan(plan)
    check_shelf(plan, shelf)
    check_ticks(count)
    found = []
    for place, ticks in enumerate(first_lefts(plan, time, shelf)):
        if ticks is not None and ticks <= count:
            found.append(place)
    return found


def watching_time(plan, time, shelf):
    """Return the number of ticks after which nothing new is seen at a shelf."""
    check_plan(plan)
    check_shelf(plan, shelf)
    return max([ticks for ticks in first_lefts(plan, time, shelf) if ticks is not None], default=0)


def first_lefts(plan, time, shelf):
    """Return for each place after how many ticks its parcel is left on a shelf, or None."""
    lap = Lap(plan, time)
    found = []
    for place in range(len(lap.effect)):
        lefts = lefts_of_journey(lap, place)
        found.append(lefts.index(shelf) + 1 if shelf in lefts else None)
    return found
