"""The greatest deliveries of all claims (g1, g2)."""

from heldwater.basins import claim_cell, claim_size, claims
from heldwater.network import SOURCE, Network


def serve(network, basin, rights, claim):
    """Gives a claim as much as it can get beside those that were served; tells how much (g2)."""
    return network.send(SOURCE, claim_cell(basin, rights, claim), claim_size(basin, rights, claim))


def serve_all(network, basin, rights):
    """Serves all claims in their order; tells how much each gets."""
    amounts = []
    for claim in claims(basin, rights):
        amounts.append(serve(network, basin, rights, claim))
    return amounts


def greatest(basin, rights):
    """The greatest deliveries of all claims (g1)."""
    return tuple(serve_all(Network(basin), basin, rights))


def rows_of_rights(basin, rights, amounts):
    """For each right, of the amounts of all claims, its own month by month."""
    months = basin[0]
    return tuple([tuple(amounts[r * months:(r + 1) * months]) for r in range(len(rights))])


def delivered(basin, rights):
    """For each right its greatest deliveries, month by month."""
    return rows_of_rights(basin, rights, greatest(basin, rights))


def short_claims(basin, rights):
    """The pairs (claim, by how much it is short) of all claims that are short (g2)."""
    pairs = []
    for claim, amount in zip(claims(basin, rights), greatest(basin, rights)):
        lacking = claim_size(basin, rights, claim) - amount
        if lacking > 0:
            pairs.append((claim, lacking))
    return tuple(pairs)
