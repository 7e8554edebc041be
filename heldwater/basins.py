"""Basins, rights and claims (c2, c3, c5), and the ways down the river (b3)."""

# The places of the pieces in the tuple of a site (c2).
NAME = 0
NEXT = 1
TRAVEL = 2
REACH = 3
ROOM = 4
HELD = 5
INFLOWS = 6

# The places of the pieces in the tuple of a right (c3).
RIGHT_NAME = 0
RIGHT_SITE = 1
DEMANDS = 2


def site_number(basin, name):
    """The number of the site with this name, or None."""
    for s, site in enumerate(basin[1]):
        if site[NAME] == name:
            return s
    return None


def right_number(rights, name):
    """The number of the right with this name, or None."""
    for r, right in enumerate(rights):
        if right[RIGHT_NAME] == name:
            return r
    return None


def with_piece(basin, name, place, piece):
    """The basin with something else in a place of the tuple of a site."""
    months, sites = basin
    at = site_number(basin, name)
    site = sites[at][:place] + (piece,) + sites[at][place + 1:]
    return months, sites[:at] + (site,) + sites[at + 1:]


def route(basin, name):
    """The pairs (name, delay) from a site on down to the outlet (b3)."""
    pairs = []
    delay = 0
    at = site_number(basin, name)
    while at is not None:
        site = basin[1][at]
        pairs.append((site[NAME], delay))
        delay += site[TRAVEL]
        at = site_number(basin, site[NEXT])
    return tuple(pairs)


def upstream(basin, name):
    """The names of the sites whose route leads to a site, itself among them (b3)."""
    names = []
    for site in basin[1]:
        if name in [lower for lower, _ in route(basin, site[NAME])]:
            names.append(site[NAME])
    return tuple(names)


def claims(basin, rights):
    """All claims in their order (c5)."""
    months, sites = basin
    of_rights = [("right", r, m) for r in range(len(rights)) for m in range(months)]
    of_rooms = [("room", s) for s in range(len(sites))]
    return tuple(of_rights + of_rooms)


def claim_cell(basin, rights, claim):
    """The cell (site, month) of a claim (c5)."""
    if claim[0] == "room":
        return claim[1], basin[0] - 1
    return site_number(basin, rights[claim[1]][RIGHT_SITE]), claim[2]


def claim_size(basin, rights, claim):
    """How much a claim is (c5)."""
    if claim[0] == "room":
        return basin[1][claim[1]][ROOM]
    return rights[claim[1]][DEMANDS][claim[2]]
