"""What dockets, seasons and projects have in common: the effects of changes, and lines of journals."""

from heldwater.basins import RIGHT_NAME
from heldwater.flows import delivered

MOST_CHANGES = 30
TOO_MANY = "too many changes"
UNDO = "undo"


def line_of(pieces):
    """The line of these pieces in a journal (j1)."""
    return " ".join([str(piece) for piece in pieces])


def text_of(lines):
    """The journal that has these lines (j1)."""
    return "".join([line + "\n" for line in lines])


def effects_between(basin, rights, later_basin, later_rights):
    """Where the greatest deliveries ahead of a change and behind it differ: (name, month, before, after) (d2, e2)."""
    before = rows_by_name(basin, rights)
    after = rows_by_name(later_basin, later_rights)
    nothing = (0,) * basin[0]
    names = list(before) + [name for name in after if name not in before]
    found = []
    for name in names:
        ahead = before.get(name, nothing)
        behind = after.get(name, nothing)
        for m in range(basin[0]):
            if ahead[m] != behind[m]:
                found.append((name, m, ahead[m], behind[m]))
    return tuple(found)


def rows_by_name(basin, rights):
    """The greatest deliveries of each right, by its name."""
    rows = {}
    for right, row in zip(rights, delivered(basin, rights)):
        rows[right[RIGHT_NAME]] = row
    return rows
