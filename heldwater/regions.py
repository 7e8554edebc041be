"""Regions: what they have, what can enter them, and why a claim is short (c6, r1 to r3)."""

from heldwater.basins import claim_cell, claim_size, claims
from heldwater.cells import cells_of, own_water, ways_into
from heldwater.flows import greatest, serve
from heldwater.network import Network


def supply(basin, region):
    """The supply of a region (r1)."""
    return sum([own_water(basin, cell) for cell in region])


def entering(basin, region):
    """What can enter a region, or None if it is open (r1)."""
    total = 0
    for cell in region:
        for _, ahead, limit in ways_into(basin, cell):
            if ahead in region:
                continue
            if limit is None:
                return None
            total += limit
    return total


def is_region(basin, region):
    """Whether this is a region of the basin, whatever it is (c6)."""
    if not isinstance(region, tuple) or len(region) == 0:
        return False
    if not all([is_pair(cell) for cell in region]):
        return False
    return region == tuple([cell for cell in cells_of(basin) if cell in region])


def is_pair(cell):
    """Whether this is a pair of integers, whatever it is."""
    return isinstance(cell, tuple) and len(cell) == 2 and all([is_whole(part) for part in cell])


def is_whole(part):
    """Whether this is an integer, whatever it is; True and False are none."""
    return isinstance(part, int) and not isinstance(part, bool)


def is_exhausted(basin, rights, region, claim):
    """Whether a region is exhausted at a claim (r3)."""
    limit = entering(basin, region)
    if limit is None or claim_cell(basin, rights, claim) not in region:
        return False
    used = 0
    ahead = claims_before(basin, rights, claim) + (claim,)
    for other, amount in zip(ahead, greatest(basin, rights)):
        if claim_cell(basin, rights, other) in region:
            used += amount
    return used == supply(basin, region) + limit


def reason(basin, rights, claim):
    """The least region that is exhausted at a claim, or None if the claim is not short (r3)."""
    network = Network(basin)
    for earlier in claims_before(basin, rights, claim):
        serve(network, basin, rights, earlier)
    if serve(network, basin, rights, claim) == claim_size(basin, rights, claim):
        return None
    # No more can be sent to the cell. So what leads into the cells above it is full, and what
    # leads out of them is empty: so this region is exhausted, and every one that is has it in it.
    above = network.nodes_above(claim_cell(basin, rights, claim))
    return tuple([cell for cell in cells_of(basin) if cell in above])


def claims_before(basin, rights, claim):
    """All claims that are earlier than a claim."""
    every = claims(basin, rights)
    return every[:every.index(claim)]
