"""Texts of basins and rights (b1, b2)."""

from heldwater.basins import HELD, INFLOWS, NAME, NEXT, RIGHT_SITE, ROOM
from heldwater.errors import BadBasin
from heldwater.words import ABOVE_ALL, is_name, number_within

MOST_MONTHS = 4
MOST_SITES = 4
MOST_RIGHTS = 4
MOST_TRAVEL = 2
MOST_WATER = 99

# The words of a site's line between its name and its flow, in order.
SITE_WORDS = ("to", "in", "reach", "room", "held")


def basin_text(basin, rights):
    """The text of a basin and rights (b1)."""
    lines = [site_line(site) for site in basin[1]]
    lines.extend([right_line(right) for right in rights])
    return "\n".join(lines)


def site_line(site):
    """The line of a site."""
    name, lower, travel, reach, room, held, inflows = site
    pieces = ["site", name]
    if lower is not None:
        pieces.extend(["to", lower])
        if travel > 0:
            pieces.extend(["in", str(travel)])
        if reach is not None:
            pieces.extend(["reach", str(reach)])
    if room > 0:
        pieces.extend(["room", str(room)])
    if held > 0:
        pieces.extend(["held", str(held)])
    pieces.append("flow")
    pieces.extend([str(amount) for amount in inflows])
    return " ".join(pieces)


def right_line(right):
    """The line of a right."""
    name, place, demands = right
    pieces = ["right", name, "at", place, "wants"]
    pieces.extend([str(amount) for amount in demands])
    return " ".join(pieces)


def parse_basin(text):
    """The pair (basin, rights) of a text; raises BadBasin (b2)."""
    sites = []
    rights = []
    for k, line in enumerate(text.split("\n")):
        wrong = add_line(sites, rights, line)
        if wrong is not None:
            raise BadBasin(k + 1, wrong)
    for s in range(len(sites)):
        wrong = next_fault(sites, s)
        if wrong is not None:
            raise BadBasin(s + 1, wrong)
    return (len(sites[0][INFLOWS]), tuple(sites)), tuple(rights)


def add_line(sites, rights, line):
    """Puts the site or the right of a line behind the others; tells why not, if it is refused."""
    months = len(sites[0][INFLOWS]) if sites else None
    site = read_site(line, months)
    if site is not None:
        wrong = site_fault(sites, rights, site)
        sites.append(site)
        return wrong
    right = read_right(line, months) if sites else None
    if right is None:
        return "not a line"
    wrong = right_fault(sites, rights, right)
    rights.append(right)
    return wrong


def read_site(line, months):
    """The site that a line writes, or None; months is None in the first line."""
    head, _, flow = line.rpartition(" flow ")
    pieces = head.split(" ")
    if pieces[0] != "site" or len(pieces) % 2 == 1 or not is_name(pieces[1]):
        return None
    told = read_told(pieces[2::2], pieces[3::2])
    inflows = read_amounts(flow, months)
    if told is None or inflows is None:
        return None
    return (
        pieces[1], told.get("to"), told.get("in", 0), told.get("reach"),
        told.get("room", 0), told.get("held", 0), inflows,
    )


def read_told(words, pieces):
    """What stands behind each word between a site's name and its flow, or None."""
    if words != [word for word in SITE_WORDS if word in words]:
        return None
    if "to" not in words and ("in" in words or "reach" in words):
        return None
    told = {}
    for word, piece in zip(words, pieces):
        told[word] = read_piece(word, piece)
        if told[word] is None:
            return None
    return told


def read_piece(word, piece):
    """The name or the number that a piece writes behind a word, or None."""
    if word == "to":
        return piece if is_name(piece) else None
    if word == "in":
        return number_within(piece, 1, MOST_TRAVEL)
    if word == "reach":
        return number_within(piece, 0, MOST_WATER)
    if word == "room":
        return number_within(piece, 1, MOST_WATER)
    # What a site holds is bounded by its room alone, which is looked at later.
    return number_within(piece, 1, ABOVE_ALL)


def read_right(line, months):
    """The right that a line writes, or None."""
    head, _, wants = line.rpartition(" wants ")
    pieces = head.split(" ")
    if len(pieces) != 4 or pieces[0] != "right" or pieces[2] != "at":
        return None
    demands = read_amounts(wants, months)
    if not is_name(pieces[1]) or not is_name(pieces[3]) or demands is None:
        return None
    return pieces[1], pieces[3], demands


def read_amounts(text, months):
    """The numbers for each month that a text writes, or None; months is None in the first line."""
    amounts = [number_within(piece, 0, MOST_WATER) for piece in text.split(" ")]
    if None in amounts or len(amounts) > MOST_MONTHS:
        return None
    if months is not None and len(amounts) != months:
        return None
    return tuple(amounts)


def site_fault(sites, rights, site):
    """Why a site is refused behind these sites and rights, or None."""
    if rights:
        return "site behind a right"
    if len(sites) == MOST_SITES:
        return "too many sites"
    if site[NAME] in [earlier[NAME] for earlier in sites]:
        return "name twice"
    if site[HELD] > site[ROOM]:
        return "held above room"
    return None


def right_fault(sites, rights, right):
    """Why a right is refused behind these sites and rights, or None."""
    if right[RIGHT_SITE] not in [site[NAME] for site in sites]:
        return "no such site"
    if len(rights) == MOST_RIGHTS:
        return "too many rights"
    if right[NAME] in [earlier[NAME] for earlier in rights]:
        return "name twice"
    return None


def next_fault(sites, s):
    """Why the next site of a site is refused, or None."""
    if s == len(sites) - 1:
        return None if sites[s][NEXT] is None else "outlet leads on"
    if sites[s][NEXT] not in [later[NAME] for later in sites[s + 1:]]:
        return "next is not later"
    return None
