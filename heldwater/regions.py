"""Regions: what they have, what can enter them, and why a claim is short (c6, r1 to r3)."""

from heldwater.basins import claim_cell, claim_size, claims
from heldwater.cells import cells_of, own_water, ways_into
from heldwater.flows import greatest, serve
from heldwater.forms import is_tuple_of, is_whole
from heldwater.network import Network


def supply(basin, region):
    """The supply of a region (r1)."""
    return sum([own_water(basin, cell) for cell in region])


def entering(basin, region):
    """What can enter a region, or None if it is open (r1)."""
    return most_across(region, [(ahead, limit) for cell in region for _, ahead, limit in ways_into(basin, cell)])


def most_across(region, ways):
    """What the ways (other end, limit) that leave or enter a region can take together; None if one has no limit."""
    limits = [limit for end, limit in ways if end not in region]
    return None if None in limits else sum(limits)


def most_within(basin, region):
    """The supply of a region and what can enter it together, or None if it is open (r2)."""
    limit = entering(basin, region)
    return None if limit is None else supply(basin, region) + limit


def is_region(basin, region):
    """Whether this is a region of the basin, whatever it is (c6)."""
    if not isinstance(region, tuple) or len(region) == 0:
        return False
    if not all([is_pair(cell) for cell in region]):
        return False
    return region == tuple([cell for cell in cells_of(basin) if cell in region])


def is_pair(cell):
    """Whether this is a pair of integers, whatever it is."""
    return is_tuple_of(cell, 2) and all([is_whole(part) for part in cell])


def is_exhausted(basin, rights, region, claim):
    """Whether a region is exhausted at a claim (r3)."""
    return is_used_up(basin, rights, greatest(basin, rights), region, claim)


def is_used_up(basin, rights, amounts, region, claim):
    """Whether a region that is not open has a claim's cell, and all its water goes to claims up to this one.

    The amounts are what all claims are given, in their order.
    """
    most = most_within(basin, region)
    if most is None or claim_cell(basin, rights, claim) not in region:
        return False
    first = claims_before(basin, rights, claim) + (claim,)
    return given_within(basin, rights, amounts, region, first) == most


def given_within(basin, rights, amounts, region, first):
    """How much the first claims are given, of those whose cells are in a region."""
    total = 0
    for claim, amount in zip(first, amounts):
        if claim_cell(basin, rights, claim) in region:
            total += amount
    return total


def reason(basin, rights, claim):
    """The least region that is exhausted at a claim, or None if the claim is not short (r3)."""
    network = Network(basin)
    for earlier in claims_before(basin, rights, claim):
        serve(network, basin, rights, earlier)
    if serve(network, basin, rights, claim) == claim_size(basin, rights, claim):
        return None
    # No more can be sent to the cell. So what leads into the cells above it is full, and what
    # leads out of them is empty: so this region is exhausted, and every one that is has it in it.
    above = network.nodes_above(claim_cell(basin, rights, claim))
    return tuple([cell for cell in cells_of(basin) if cell in above])


def claims_before(basin, rights, claim):
    """All claims that are earlier than a claim."""
    every = claims(basin, rights)
    return every[:every.index(claim)]
