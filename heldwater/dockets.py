"""Dockets: rights in an order that changes (d1, d2), and what was done with them (j1)."""

from heldwater.basins import RIGHT_NAME, RIGHT_SITE, right_number, site_number
from heldwater.changes import MOST_CHANGES, TOO_MANY, UNDO, effects_between, line_of, text_of
from heldwater.errors import BadChange
from heldwater.flows import delivered

MOST_RIGHTS = 4


class Docket:
    """The rights of a basin, at first none."""

    def __init__(self, basin):
        self._basin = basin
        self._order = ()
        # The rights as they were ahead of each change that can be undone.
        self._earlier = []
        self._lines = []

    def apply(self, change):
        """Makes a change; tells its effects; raises BadChange."""
        told = self.effects(change)
        self._earlier.append(self._order)
        self._order = changed(self._order, change)
        self._lines.append(change_line(change))
        return told

    def effects(self, change):
        """The effects that a change would have; raises BadChange (d2)."""
        wrong = change_fault(self._basin, self._order, change)
        if wrong is None and len(self._earlier) >= MOST_CHANGES:
            wrong = TOO_MANY
        if wrong is not None:
            raise BadChange(wrong)
        return effects_between(self._basin, self._order, self._basin, changed(self._order, change))

    def undo(self):
        """Takes back the last change that was not undone; False if there is none."""
        if not self._earlier:
            return False
        self._order = self._earlier.pop()
        self._lines.append(UNDO)
        return True

    def rights(self):
        """The rights in their order."""
        return self._order

    def deliveries(self):
        """For each right its greatest deliveries."""
        return delivered(self._basin, self._order)

    def journal(self):
        """The journal of all changes and undos (j1)."""
        return text_of(self._lines)


def change_fault(basin, order, change):
    """Why a change of these rights is refused, or None (d1)."""
    kind = change[0]
    if kind == "file":
        return filing_fault(basin, order, change[1], change[2])
    if right_number(order, change[1]) is None:
        return "no such right"
    if kind == "move" and site_number(basin, change[2]) is None:
        return "no such site"
    if kind == "rank" and (change[2] < 0 or change[2] >= len(order)):
        return "no such rank"
    return None


def filing_fault(basin, order, right, rank):
    """Why a right is not filed with a rank among these rights, or None."""
    if right_number(order, right[RIGHT_NAME]) is not None:
        return "name taken"
    if len(order) >= MOST_RIGHTS:
        return "too many rights"
    if site_number(basin, right[RIGHT_SITE]) is None:
        return "no such site"
    if rank < 0 or rank > len(order):
        return "no such rank"
    return None


def changed(order, change):
    """The rights behind a change that is not refused."""
    kind = change[0]
    if kind == "file":
        return put_in(order, change[1], change[2])
    rank = right_number(order, change[1])
    name, place, demands = order[rank]
    others = order[:rank] + order[rank + 1:]
    if kind == "withdraw":
        return others
    if kind == "move":
        return put_in(others, (name, change[2], demands), rank)
    if kind == "demands":
        return put_in(others, (name, place, change[2]), rank)
    return put_in(others, order[rank], change[2])


def put_in(order, right, rank):
    """The rights with one more, which has this rank."""
    return order[:rank] + (right,) + order[rank:]


def change_line(change):
    """The line of a change in the journal."""
    kind = change[0]
    if kind == "file":
        name, place, demands = change[1]
        pieces = [kind, name, place, change[2]] + list(demands)
    elif kind == "demands":
        pieces = [kind, change[1]] + list(change[2])
    else:
        pieces = list(change)
    return line_of(pieces)
