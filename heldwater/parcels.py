"""Parcels: where each unit of the water of a right plan came from (k1, k2)."""

from heldwater.basins import HELD, INFLOWS, NAME, RIGHT_SITE, TRAVEL
from heldwater.cells import LET_DOWN, STORED, cells_of, ways_into
from heldwater.errors import BadPlan
from heldwater.plans import plan_fault

# The other uses of the water of a cell, beside those that are ways into another one.
GIVEN = "given"
SPILLED = "spilled"


def parcels(basin, rights, plan):
    """The parcels of a right plan: (deliveries, stored, spilled, lost); raises BadPlan (k2)."""
    if plan_fault(basin, rights, plan) is not None:
        raise BadPlan("not right")
    months, sites = basin
    uses = {}
    for cell in cells_of(basin):
        row = water_of(basin, uses, cell)
        use_water(uses, row, wants_of(basin, rights, plan, cell), (SPILLED, cell))
    given = rows_of(uses, GIVEN, len(rights), months)
    stored = tuple([tuple(uses[(STORED, (s, months - 1))]) for s in range(len(sites))])
    spilled = rows_of(uses, SPILLED, len(sites), months)
    return given, stored, spilled, rows_lost(basin, uses)


def rows_of(uses, kind, many, months):
    """The rows of a use, for so many rights or sites, month by month."""
    table = []
    for k in range(many):
        table.append(tuple([tuple(uses[(kind, (k, m))]) for m in range(months)]))
    return tuple(table)


def rows_lost(basin, uses):
    """For each site, month by month, what is let down so that it would arrive behind the last month."""
    months, sites = basin
    table = []
    for s, site in enumerate(sites):
        late = months - site[TRAVEL]
        table.append(tuple([tuple(uses[(LET_DOWN, (s, m))]) if m >= late else () for m in range(months)]))
    return tuple(table)


def water_of(basin, uses, cell):
    """The row of the water of a cell, in the order in which it is used (k1)."""
    s, m = cell
    site = basin[1][s]
    row = [(("held", s), site[HELD] if m == 0 else 0)]
    for kind, ahead, _ in ways_into(basin, cell):
        row.extend(uses[(kind, ahead)])
    row.append((("in", s, m), site[INFLOWS][m]))
    return joined(row)


def wants_of(basin, rights, plan, cell):
    """The pairs (use, amount) of a cell by a plan, in their order, without what is spilled."""
    s, m = cell
    deliveries, releases, storages = plan
    wants = []
    for r, right in enumerate(rights):
        if right[RIGHT_SITE] == basin[1][s][NAME]:
            wants.append(((GIVEN, (r, m)), deliveries[r][m]))
    wants.append(((LET_DOWN, cell), releases[s][m]))
    wants.append(((STORED, cell), storages[s][m]))
    return wants


def use_water(uses, row, wants, remainder):
    """Puts down for each use the parcels that it takes of a row, and the rest for the remainder."""
    for use, amount in wants:
        front, row = cut(row, amount)
        uses[use] = front
    uses[remainder] = row


def cut(row, amount):
    """The parcels at the front of a row that make up an amount, and those behind them."""
    front = []
    rest = []
    for origin, many in row:
        taken = min(many, amount)
        amount -= taken
        front.append((origin, taken))
        rest.append((origin, many - taken))
    return joined(front), joined(rest)


def joined(row):
    """The row without parcels of 0, neighbours of one origin being one."""
    found = []
    for origin, amount in row:
        if amount == 0:
            continue
        if found and found[-1][0] == origin:
            amount += found.pop()[1]
        found.append((origin, amount))
    return found
