"""Sizes: the least room of a site, and its firm yield (z1, z2)."""

from heldwater.basins import DEMANDS, HELD, ROOM, site_number, with_piece
from heldwater.cells import all_water
from heldwater.flows import delivered


def with_room(basin, site, room):
    """The basin with another room of a site."""
    return with_piece(basin, site, ROOM, room)


def held_at(basin, site):
    """What is held at a site."""
    return basin[1][site_number(basin, site)][HELD]


def all_served(basin, rights):
    """Whether no claim of a right is short."""
    return delivered(basin, rights) == tuple([right[DEMANDS] for right in rights])


def least_room(basin, rights, site):
    """The least room of a site with which no claim of a right is short, or None (z1)."""
    least = held_at(basin, site)
    # A room for all water is never full, so a greater one is no better. With more room no less
    # can be given: so the least room is found by halves.
    enough = all_water(basin)
    if not all_served(with_room(basin, site, enough), rights):
        return None
    while least < enough:
        middle = (least + enough) // 2
        if all_served(with_room(basin, site, middle), rights):
            enough = middle
        else:
            least = middle + 1
    return least


def firm_yield(basin, rights, site):
    """The greatest amount that a youngest right at a site could demand in every month (z2)."""
    sure = 0
    most = all_water(basin)
    while sure < most:
        middle = (sure + most + 1) // 2
        if is_sure(basin, rights, site, middle):
            sure = middle
        else:
            most = middle - 1
    return sure


def is_sure(basin, rights, site, amount):
    """Whether a youngest right at a site that demands this in every month is not short."""
    more = even_right(basin, site, amount)
    return delivered(basin, rights + (more,))[-1] == more[DEMANDS]


def even_right(basin, site, amount):
    """One right more at a site, which demands this in every month."""
    return "one more", site, (amount,) * basin[0]
