"""Rules of operation: basins that are run by targets, without looking ahead (t1, t2)."""

from heldwater.basins import DEMANDS, NAME, NEXT, REACH, RIGHT_SITE, ROOM, TRAVEL, site_number
from heldwater.cells import cells_of
from heldwater.operations import as_rows
from heldwater.plans import received


def run_by(basin, rights, targets):
    """The plan of a basin that is run by targets (t1)."""
    months, sites = basin
    deliveries = [[0] * months for _ in rights]
    releases = [[0] * months for _ in sites]
    storages = [[0] * months for _ in sites]
    for s, m in cells_of(basin):
        left = received(basin, (deliveries, releases, storages), (s, m))
        for r, right in enumerate(rights):
            if right[RIGHT_SITE] == sites[s][NAME]:
                deliveries[r][m] = min(right[DEMANDS][m], left)
                left -= deliveries[r][m]
        stored = min(targets[s][m], sites[s][ROOM], left)
        releases[s][m] = let_down(basin, (s, m), left - stored)
        # What is not let down is stored beyond the target, too.
        storages[s][m] = min(sites[s][ROOM], left - releases[s][m])
    return as_rows(deliveries), as_rows(releases), as_rows(storages)


def let_down(basin, cell, left):
    """How much of what is left of a cell's water is let down, if as much is as can be and arrives in time."""
    s, m = cell
    site = basin[1][s]
    if site[NEXT] is None or m + site[TRAVEL] >= basin[0]:
        return 0
    return left if site[REACH] is None else min(left, site[REACH])


def best_even_target(basin, rights, targets, site):
    """The least target of a site, the same in every month, that gives all rights together the most (t2)."""
    at = site_number(basin, site)
    totals = []
    for target in range(basin[1][at][ROOM] + 1):
        even = targets[:at] + ((target,) * basin[0],) + targets[at + 1:]
        totals.append(sum([sum(row) for row in run_by(basin, rights, even)[0]]))
    return totals.index(max(totals))
