"""Seasons: months that are closed one after the other, with the inflows that there were (s1 to s4)."""

from heldwater.basins import DEMANDS, HELD, INFLOWS
from heldwater.basintext import MOST_WATER
from heldwater.cells import LET_DOWN, ways_into
from heldwater.changes import UNDO, line_of, text_of
from heldwater.errors import BadArgument, Ended
from heldwater.forms import is_row_within
from heldwater.operations import operation
from heldwater.plans import left_over

# The places of the pieces in what is put down of a closed month, behind its inflows.
DELIVERED = 1
RELEASED = 2
KEPT = 3


class Season:
    """A season of a basin, whose inflows are the forecast, and of rights: at first all months are open."""

    def __init__(self, basin, rights):
        self._basin = basin
        self._rights = rights
        # For each closed month (inflows, deliveries, releases, storages, spills).
        self._closed = []
        self._lines = []

    def close(self, inflows):
        """Closes a month; tells (deliveries, releases, storages, spills); raises BadArgument, then Ended (s3)."""
        if not is_row_within(inflows, len(self._basin[1]), MOST_WATER):
            raise BadArgument("inflows")
        if self.month() == self._basin[0]:
            raise Ended()
        found = closed_month(self._basin, self._rights, self._closed, inflows)
        self._closed.append(found)
        self._lines.append(line_of(["close"] + list(inflows)))
        return found[DELIVERED:]

    def month(self):
        """How many months are closed."""
        return len(self._closed)

    def expected(self):
        """For each right what it got in closed months, and what it gets in the others by the forecast (s3)."""
        return self.outlook()[0]

    def outlook(self):
        """The closed months as they were, and the others as they are operated by the forecast: a plan (s3)."""
        past = rows_so_far(self._basin, self._rights, self._closed)
        if self.month() == self._basin[0]:
            return past
        forecast = tuple([site[INFLOWS][self.month()] for site in self._basin[1]])
        rest, wants = rest_of(self._basin, self._rights, self._closed, forecast)
        return tuple([one_behind_other(rows, more) for rows, more in zip(past, operation(rest, wants))])

    def records(self):
        """For each closed month (inflows, deliveries, releases, storages, spills)."""
        return tuple(self._closed)

    def undo(self):
        """Opens the last closed month again; False if there is none."""
        if not self._closed:
            return False
        self._closed.pop()
        self._lines.append(UNDO)
        return True

    def journal(self):
        """The journal of all that was closed and undone (j1)."""
        return text_of(self._lines)


def rest_of(basin, rights, closed, inflows):
    """The rest of a season behind closed months, for inflows of the next one: the pair (basin, rights) (s2)."""
    months, sites = basin
    now = len(closed)
    rows = []
    for s, site in enumerate(sites):
        coming = [inflows[s]] + list(site[INFLOWS][now + 1:])
        for k in range(months - now):
            coming[k] += arriving(basin, closed, (s, now + k))
        held = closed[-1][KEPT][s] if closed else site[HELD]
        rows.append(site[:HELD] + (held, tuple(coming)))
    wants = [right[:DEMANDS] + (right[DEMANDS][now:],) for right in rights]
    return (months - now, tuple(rows)), tuple(wants)


def arriving(basin, closed, cell):
    """How much of the water that was let down in closed months arrives at a cell (s1)."""
    amount = 0
    for kind, (u, m), _ in ways_into(basin, cell):
        if kind == LET_DOWN and m < len(closed):
            amount += closed[m][RELEASED][u]
    return amount


def closed_month(basin, rights, closed, inflows):
    """What is put down of the month behind closed ones, if these are its inflows (s3)."""
    rest, wants = rest_of(basin, rights, closed, inflows)
    plan = operation(rest, wants)
    first = [tuple([row[0] for row in rows]) for rows in plan]
    spilled = tuple([left_over(rest, wants, plan, (s, 0)) for s in range(len(inflows))])
    return (inflows,) + tuple(first) + (spilled,)


def rows_so_far(basin, rights, closed):
    """The deliveries, releases and storages of closed months: for each right or site a row."""
    tables = []
    for place, many in ((DELIVERED, len(rights)), (RELEASED, len(basin[1])), (KEPT, len(basin[1]))):
        tables.append(tuple([tuple([month[place][k] for month in closed]) for k in range(many)]))
    return tuple(tables)


def one_behind_other(rows, more):
    """Each row with its row of more months behind it."""
    return tuple([row + later for row, later in zip(rows, more)])
