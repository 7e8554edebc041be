"""Water that nobody gets: what plans waste, and why no plan wastes less (w1 to w3)."""

from heldwater.basins import TRAVEL, claim_size, claims
from heldwater.cells import all_water, cells_of, ways_out_of
from heldwater.flows import greatest, serve_all
from heldwater.network import SOURCE, Network
from heldwater.plans import spills
from heldwater.regions import given_within, most_across, supply


def waste_of(basin, rights, plan):
    """The waste of a right plan; raises BadPlan (w1)."""
    months, sites = basin
    total = sum([sum(row) for row in spills(basin, rights, plan)])
    for site, row in zip(sites, plan[1]):
        # What is let down in the last months, as many as it travels, arrives behind all of them.
        total += sum([amount for m, amount in enumerate(row) if m + site[TRAVEL] >= months])
    return total


def leaving(basin, region):
    """What can leave a region, or None if it runs off (w2)."""
    return most_across(region, [way for cell in region for way in ways_out_of(basin, cell)])


def claimed_within(basin, rights, region):
    """All claims whose cells are in a region, together."""
    every = claims(basin, rights)
    sizes = [claim_size(basin, rights, claim) for claim in every]
    return given_within(basin, rights, sizes, region, every)


def surplus(basin, rights, region):
    """The surplus of a region, or None if it runs off (w2)."""
    out = leaving(basin, region)
    return None if out is None else supply(basin, region) - claimed_within(basin, rights, region) - out


def least_waste(basin, rights):
    """The least waste of all right plans (w3)."""
    return all_water(basin) - sum(greatest(basin, rights))


def overfull(basin, rights):
    """The overfull region, or None if the least waste is 0 (w3)."""
    network = Network(basin)
    serve_all(network, basin, rights)
    # Where more water could be sent, all claims are full, and so is what leads out of there, and
    # what leads into there is empty: so this region has the least waste as its surplus. Another
    # one that has it is left by no water, too: so it has all of these cells in it.
    below = network.nodes_below(SOURCE)
    region = tuple([cell for cell in cells_of(basin) if cell in below])
    return region if region else None
