"""Texts of plans and certificates (v1 to v3)."""

from heldwater.basins import NAME, RIGHT_NAME
from heldwater.cells import cells_of
from heldwater.errors import BadPlan
from heldwater.regions import is_region
from heldwater.words import number_within

MOST_AMOUNT = 9999


def plan_text(basin, rights, plan):
    """The text of a plan (v1)."""
    return "\n".join(plan_lines(basin, rights, plan))


def certificate_text(basin, rights, certificate):
    """The text of a certificate (v2)."""
    plan, regions = certificate
    lines = plan_lines(basin, rights, plan)
    lines.extend([region_line(basin, region) for region in regions])
    return "\n".join(lines)


def plan_heads(basin, rights):
    """The pairs (word, name) with which the lines of a plan begin, in order."""
    heads = [("give", right[RIGHT_NAME]) for right in rights]
    for site in basin[1]:
        heads.append(("let", site[NAME]))
        heads.append(("store", site[NAME]))
    return heads


def plan_lines(basin, rights, plan):
    """The lines of a plan."""
    deliveries, releases, storages = plan
    rows = list(deliveries)
    for let_down, stored in zip(releases, storages):
        rows.append(let_down)
        rows.append(stored)
    lines = []
    for (word, name), row in zip(plan_heads(basin, rights), rows):
        lines.append(" ".join([word, name] + [str(amount) for amount in row]))
    return lines


def region_line(basin, region):
    """The line of a region."""
    return " ".join(["region"] + [cell_word(basin, cell) for cell in region])


def cell_word(basin, cell):
    """How a cell is written."""
    s, m = cell
    return f"{basin[1][s][NAME]}/{m}"


def parse_plan(basin, rights, text):
    """The plan of a text; raises BadPlan (v3)."""
    lines = text.split("\n")
    plan = read_plan(basin, rights, lines)
    many = len(plan_heads(basin, rights))
    if len(lines) > many:
        raise BadPlan(f"line {many + 1}")
    return plan


def parse_certificate(basin, rights, text):
    """The certificate of a text; raises BadPlan (v3)."""
    lines = text.split("\n")
    plan = read_plan(basin, rights, lines)
    regions = []
    for k in range(len(plan_heads(basin, rights)), len(lines)):
        region = read_region(basin, lines[k])
        if region is None:
            raise BadPlan(f"line {k + 1}")
        regions.append(region)
    return plan, tuple(regions)


def read_plan(basin, rights, lines):
    """The plan that the first lines write; raises BadPlan."""
    rows = []
    for k, head in enumerate(plan_heads(basin, rights)):
        row = read_row(head, basin[0], lines[k]) if k < len(lines) else None
        if row is None:
            raise BadPlan(f"line {k + 1}")
        rows.append(row)
    many = len(rights)
    return tuple(rows[:many]), tuple(rows[many::2]), tuple(rows[many + 1::2])


def read_row(head, months, line):
    """The amounts that a line with this head writes, or None."""
    word, name = head
    pieces = line.split(" ")
    if pieces[:2] != [word, name] or len(pieces) != months + 2:
        return None
    amounts = [number_within(piece, 0, MOST_AMOUNT) for piece in pieces[2:]]
    return None if None in amounts else tuple(amounts)


def read_region(basin, line):
    """The region that a line writes, or None."""
    word, *pieces = line.split(" ")
    cells = {}
    for cell in cells_of(basin):
        cells[cell_word(basin, cell)] = cell
    region = tuple([cells.get(piece) for piece in pieces])
    return region if word == "region" and is_region(basin, region) else None
