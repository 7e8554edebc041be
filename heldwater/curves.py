"""Curves: what greater rooms and reaches are worth (y1, y2)."""

from heldwater.basins import NAME, REACH, ROOM, with_piece
from heldwater.cells import all_water
from heldwater.flows import delivered
from heldwater.sizes import even_right, firm_yield, held_at, least_room, with_room


def yield_curve(basin, dam, place):
    """The pairs (room of the dam, firm yield of the place) at which the yield is another one (y1)."""
    room = held_at(basin, dam)
    amount = yield_with(basin, dam, room, place)
    pairs = [(room, amount)]
    # A room for all water is never full, so no greater one yields more.
    most = yield_with(basin, dam, all_water(basin), place)
    while amount < most:
        room = least_room(basin, (even_right(basin, place, amount + 1),), dam)
        amount = yield_with(basin, dam, room, place)
        pairs.append((room, amount))
    return tuple(pairs)


def yield_with(basin, dam, room, place):
    """The firm yield of a place, without rights, if the dam has this room."""
    return firm_yield(with_room(basin, dam, room), (), place)


def room_worth(basin, rights):
    """For each site by how much all rights get more if its room is greater by one (y2)."""
    return worth(basin, rights, ROOM)


def reach_worth(basin, rights):
    """For each site by how much all rights get more if its reach is greater by one (y2)."""
    return worth(basin, rights, REACH)


def worth(basin, rights, place):
    """For each site by how much all rights get more if what stands in a place of its tuple is greater by one."""
    now = given_to_all(basin, rights)
    found = []
    for site in basin[1]:
        more = 0
        # What has no limit, the outlet's reach too, is worth nothing.
        if site[place] is not None:
            more = given_to_all(with_piece(basin, site[NAME], place, site[place] + 1), rights) - now
        found.append(more)
    return tuple(found)


def given_to_all(basin, rights):
    """What all rights together get, in all months."""
    return sum([sum(row) for row in delivered(basin, rights)])
