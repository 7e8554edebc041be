"""Projects: a basin that is changed, site by site, and what that does to rights (e1, e2)."""

from heldwater.basins import HELD, INFLOWS, NEXT, REACH, ROOM, site_number, with_piece
from heldwater.basintext import MOST_WATER
from heldwater.changes import MOST_CHANGES, TOO_MANY, UNDO, effects_between, line_of, text_of
from heldwater.errors import BadChange
from heldwater.flows import delivered
from heldwater.forms import is_row_within, is_whole

NO_LIMIT = "none"


class Project:
    """A basin that is edited, and rights that stay as they are."""

    def __init__(self, basin, rights):
        self._basin = basin
        self._rights = rights
        # The basin as it was ahead of each edit that can be undone.
        self._earlier = []
        self._lines = []

    def edit(self, change):
        """Makes an edit; tells its effects; raises BadChange (e1, e2)."""
        wrong = edit_fault(self._basin, change)
        if wrong is None and len(self._earlier) >= MOST_CHANGES:
            wrong = TOO_MANY
        if wrong is not None:
            raise BadChange(wrong)
        kind, name, amount = change
        later = with_piece(self._basin, name, place_of(kind), amount)
        told = effects_between(self._basin, self._rights, later, self._rights)
        self._earlier.append(self._basin)
        self._basin = later
        self._lines.append(edit_line(change))
        return told

    def undo(self):
        """Takes back the last edit that was not undone; False if there is none."""
        if not self._earlier:
            return False
        self._basin = self._earlier.pop()
        self._lines.append(UNDO)
        return True

    def basin(self):
        """The basin as it is now."""
        return self._basin

    def rights(self):
        """The rights."""
        return self._rights

    def deliveries(self):
        """For each right its greatest deliveries."""
        return delivered(self._basin, self._rights)

    def journal(self):
        """The journal of all edits and undos (e2)."""
        return text_of(self._lines)


def place_of(kind):
    """The place in the tuple of a site of what an edit of this kind replaces."""
    if kind == "room":
        return ROOM
    if kind == "reach":
        return REACH
    return HELD if kind == "held" else INFLOWS


def edit_fault(basin, change):
    """Why an edit of this basin is refused, or None (e1)."""
    kind, name, amount = change
    s = site_number(basin, name)
    if s is None:
        return "no such site"
    site = basin[1][s]
    if kind == "reach" and site[NEXT] is None:
        return "outlet"
    if not is_amount(kind, amount, basin[0]):
        return "no such amount"
    if (kind == "room" and amount < site[HELD]) or (kind == "held" and amount > site[ROOM]):
        return "held above room"
    return None


def is_amount(kind, amount, months):
    """Whether this is an amount, or amounts, for an edit of this kind, whatever it is."""
    if kind == "inflows":
        return is_row_within(amount, months, MOST_WATER)
    if kind == "reach" and amount is None:
        return True
    if not is_whole(amount) or amount < 0:
        return False
    # What is held is bounded by the room alone, which is looked at behind this.
    return kind == "held" or amount <= MOST_WATER


def edit_line(change):
    """The line of an edit in the journal."""
    kind, name, amount = change
    if kind == "inflows":
        return line_of([kind, name] + list(amount))
    return line_of([kind, name, NO_LIMIT if amount is None else amount])
