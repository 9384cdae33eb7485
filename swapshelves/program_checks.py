"""The errors that a program may have although it fits the grammar."""

from swapshelves.checks import COUNT_LIMIT
from swapshelves.errors import ProgramError
from swapshelves.plans import MOST_ENTRIES, places_of


class Checker:
    """Sees the parts of a program in the order of the text, and keeps the first error.

    The errors are kept, not raised, since the grammar of the whole program
    comes first. Without a plan (None), no part is checked against one.
    """

    def __init__(self, plan):
        self.plan = plan
        self.places = {}
        if plan is not None:
            self.places = {place: True for place in places_of(plan)}
        self.fault = None

    def note(self, reason, token):
        """Keep an error at a token, if it is the first one."""
        if self.fault is None:
            _, row, column = token
            self.fault = (reason, row, column)

    def see_number(self, number, token):
        """See a number of ticks or rounds."""
        if number > COUNT_LIMIT:
            self.note("count", token)

    def see_place(self, place, token):
        """See a place of a swap."""
        if self.plan is not None and place not in self.places:
            self.note("place", token)

    def see_swap(self, one, other, token):
        """See both places of a swap, the second one at a token."""
        if one == other:
            self.note("swap", token)

    def see_carrier(self, carrier, token):
        """See the carrier of a route."""
        if self.plan is not None and carrier >= len(self.plan[1]):
            self.note("carrier", token)

    def see_entry(self, index, entry, token):
        """See the entry with an index of a route."""
        if index >= MOST_ENTRIES:
            self.note("route", token)
        if self.plan is not None and entry is not None and entry >= len(self.plan[0]):
            self.note("shelf", token)

    def see_definition(self, names, name, token):
        """See the name of a definition behind definitions with other names."""
        if name in names:
            self.note("duplicate", token)

    def see_call(self, names, name, token):
        """See a called name behind definitions with these names."""
        if name not in names:
            self.note("undefined", token)

    def report(self):
        """Raise ProgramError for the first error, if there is one."""
        if self.fault is not None:
            reason, row, column = self.fault
            raise ProgramError(reason, row, column)
