"""The operation: the first of the plans that give the greatest deliveries (o1)."""

from heldwater.cells import LET_DOWN, STORED, cells_of
from heldwater.flows import rows_of_rights, serve_all
from heldwater.network import Network


def operation(basin, rights):
    """The operation of a basin for rights, a plan (o1)."""
    months, sites = basin
    network = Network(basin)
    amounts = serve_all(network, basin, rights)
    # The network has no spills behind a way, and no ways beyond the last month: the first plan
    # wastes no water there, because a plan that lets down or stores less of it is ahead of it.
    releases = settle_all(network, basin, LET_DOWN)
    storages = settle_all(network, basin, STORED)
    for s, kept in enumerate(amounts[len(rights) * months:]):
        storages[s][months - 1] = kept
    return rows_of_rights(basin, rights, amounts), as_rows(releases), as_rows(storages)


def settle_all(network, basin, kind):
    """For each site what goes on its ways of a kind, made as small as can be, cell by cell in order."""
    months, sites = basin
    rows = [[0] * months for _ in sites]
    for s, m in cells_of(basin):
        rows[s][m] = network.settle(kind, (s, m))
    return rows


def as_rows(rows):
    """The rows as tuples."""
    return tuple([tuple(row) for row in rows])
