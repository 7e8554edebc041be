"""Ensembles: what is sure in several tables of inflows, and what would have been best in one (n1 to n3)."""

from heldwater.basins import DEMANDS, INFLOWS, right_number
from heldwater.errors import BadArgument
from heldwater.flows import delivered
from heldwater.seasons import DELIVERED, closed_month
from heldwater.sizes import firm_yield, least_room


def of_table(basin, table):
    """The basin of a table of inflows (n1)."""
    months, sites = basin
    return months, tuple([site[:INFLOWS] + (inflows,) for site, inflows in zip(sites, table)])


def delivered_by_tables(basin, rights, ensemble):
    """For each table, for each right its greatest deliveries."""
    return [delivered(of_table(basin, table), rights) for table in ensemble]


def reliability(basin, rights, ensemble):
    """For each right in how many tables no claim of it is short (n2)."""
    tables = delivered_by_tables(basin, rights, ensemble)
    found = []
    for r, right in enumerate(rights):
        found.append(len([rows for rows in tables if rows[r] == right[DEMANDS]]))
    return tuple(found)


def sure_deliveries(basin, rights, ensemble):
    """For each right, month by month, the least of its greatest deliveries in all tables (n2)."""
    tables = delivered_by_tables(basin, rights, ensemble)
    found = []
    for r in range(len(rights)):
        found.append(tuple([min([rows[r][m] for rows in tables]) for m in range(basin[0])]))
    return tuple(found)


def worst_table(basin, rights, ensemble, name):
    """The number of the first table in which a right gets least in all; raises BadArgument (n2)."""
    r = right_number(rights, name)
    if r is None:
        raise BadArgument("name")
    totals = [sum(rows[r]) for rows in delivered_by_tables(basin, rights, ensemble)]
    return totals.index(min(totals))


def sure_yield(basin, rights, site, ensemble):
    """The greatest amount that a youngest right at a site could demand in every month of every table (n2)."""
    return min([firm_yield(of_table(basin, table), rights, site) for table in ensemble])


def sure_room(basin, rights, site, ensemble):
    """The least room of a site with which no claim of a right is short in any table, or None (n2)."""
    rooms = [least_room(of_table(basin, table), rights, site) for table in ensemble]
    return None if None in rooms else max(rooms)


def hindsight(basin, rights, table):
    """For each right what it gets in a season that is closed with a table, and what was possible with it (n3)."""
    closed = []
    for m in range(basin[0]):
        inflows = tuple([row[m] for row in table])
        closed.append(closed_month(basin, rights, closed, inflows))
    pairs = []
    for r, row in enumerate(delivered(of_table(basin, table), rights)):
        pairs.append((sum([month[DELIVERED][r] for month in closed]), sum(row)))
    return tuple(pairs)
