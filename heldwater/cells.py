"""The cells of a basin (c6), and the ways of water into each and out of it."""

from heldwater.basins import HELD, INFLOWS, NAME, NEXT, REACH, ROOM, TRAVEL, site_number

# The two kinds of ways from one cell to another.
STORED = "stored"
LET_DOWN = "let down"


def cells_of(basin):
    """All cells (site, month), ordered by month, then site."""
    months, sites = basin
    return [(s, m) for m in range(months) for s in range(len(sites))]


def own_water(basin, cell):
    """What a cell has of its own: its inflow, and in month 0 what is held at its site."""
    s, m = cell
    site = basin[1][s]
    return site[INFLOWS][m] + (site[HELD] if m == 0 else 0)


def all_water(basin):
    """All water of a basin: all inflows and all that is held."""
    return sum([own_water(basin, cell) for cell in cells_of(basin)])


def ways_into(basin, cell):
    """The ways (kind, cell it comes from, limit or None) into a cell: the stored water, then site by site."""
    s, m = cell
    sites = basin[1]
    ways = []
    if m > 0:
        ways.append((STORED, (s, m - 1), sites[s][ROOM]))
    for u, above in enumerate(sites):
        if above[NEXT] == sites[s][NAME] and m >= above[TRAVEL]:
            ways.append((LET_DOWN, (u, m - above[TRAVEL]), above[REACH]))
    return ways


def ways_out_of(basin, cell):
    """The ways (cell it leads to, limit or None) out of a cell that end in time: to the next month, then down."""
    months, sites = basin
    s, m = cell
    site = sites[s]
    ways = []
    if m + 1 < months:
        ways.append(((s, m + 1), site[ROOM]))
    if site[NEXT] is not None and m + site[TRAVEL] < months:
        ways.append(((site_number(basin, site[NEXT]), m + site[TRAVEL]), site[REACH]))
    return ways
