"""Plans: what a cell receives, faults, spills, and what claims are given (p1 to p3, g1)."""

from heldwater.basins import DEMANDS, NAME, NEXT, REACH, RIGHT_SITE, ROOM, claims
from heldwater.cells import LET_DOWN, own_water, ways_into
from heldwater.errors import BadPlan


def received(basin, plan, cell):
    """What a cell receives by a plan (p1)."""
    _, releases, storages = plan
    amount = own_water(basin, cell)
    for kind, (s, m), _ in ways_into(basin, cell):
        rows = releases if kind == LET_DOWN else storages
        amount += rows[s][m]
    return amount


def plan_fault(basin, rights, plan):
    """The first fault of a plan, or None if it is right (p3)."""
    months, sites = basin
    for m in range(months):
        for r, right in enumerate(rights):
            if plan[0][r][m] > right[DEMANDS][m]:
                return "too much", r, m
        for s in range(len(sites)):
            kind = cell_fault(basin, rights, plan, (s, m))
            if kind is not None:
                return kind, s, m
    return None


def cell_fault(basin, rights, plan, cell):
    """The kind of the first fault of a plan at a cell, or None."""
    s, m = cell
    _, releases, storages = plan
    site = basin[1][s]
    reach = 0 if site[NEXT] is None else site[REACH]
    if reach is not None and releases[s][m] > reach:
        return "release"
    if storages[s][m] > site[ROOM]:
        return "storage"
    if left_over(basin, rights, plan, cell) < 0:
        return "balance"
    return None


def left_over(basin, rights, plan, cell):
    """What a cell receives less what it lets down, stores and gives to rights."""
    s, m = cell
    deliveries, releases, storages = plan
    used = releases[s][m] + storages[s][m]
    for r, right in enumerate(rights):
        if right[RIGHT_SITE] == basin[1][s][NAME]:
            used += deliveries[r][m]
    return received(basin, plan, cell) - used


def spills(basin, rights, plan):
    """For each site what a right plan spills, month by month (p2); raises BadPlan."""
    if plan_fault(basin, rights, plan) is not None:
        raise BadPlan("not right")
    months, sites = basin
    rows = []
    for s in range(len(sites)):
        rows.append(tuple([left_over(basin, rights, plan, (s, m)) for m in range(months)]))
    return tuple(rows)


def gives(basin, rights, plan):
    """What a plan gives each claim, in the order of claims (g1)."""
    deliveries, _, storages = plan
    amounts = []
    for claim in claims(basin, rights):
        if claim[0] == "room":
            amounts.append(storages[claim[1]][basin[0] - 1])
        else:
            amounts.append(deliveries[claim[1]][claim[2]])
    return tuple(amounts)
