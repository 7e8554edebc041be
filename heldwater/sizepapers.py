"""Papers on sizes: what shows that a room is enough, or is less than that (u1 to u3)."""

from heldwater.basins import DEMANDS, claim_cell, claim_size, claims
from heldwater.cells import all_water
from heldwater.flows import short_claims
from heldwater.forms import is_plan, is_tuple_of, is_whole
from heldwater.operations import operation
from heldwater.plans import plan_fault
from heldwater.regions import is_region, most_within, reason
from heldwater.sizes import held_at, least_room, with_room

ENOUGH = "enough"
LESS = "less"


def judge_room(basin, rights, site, room, paper):
    """Whether a paper on a room for a site is taken, whatever it is (u1)."""
    return shows_enough(basin, rights, site, room, paper) or shows_less(basin, rights, site, room, paper)


def judge_least_room(basin, rights, site, paper):
    """Whether a paper on the least room of a site is taken, whatever it is (u2)."""
    if not is_tuple_of(paper, 2):
        return False
    room, papers = paper
    held = held_at(basin, site)
    if room is None:
        return shows_less(basin, rights, site, held + all_water(basin), papers)
    if not is_tuple_of(papers, 2):
        return False
    enough, less = papers
    if not shows_enough(basin, rights, site, room, enough):
        return False
    if room == held:
        return less is None
    return shows_less(basin, rights, site, room - 1, less)


def is_room(basin, site, room):
    """Whether this is an integer of at least what is held at a site, whatever it is."""
    return is_whole(room) and room >= held_at(basin, site)


def is_paper(paper, word):
    """Whether this is a pair that begins with a word, whatever it is."""
    return is_tuple_of(paper, 2) and isinstance(paper[0], str) and paper[0] == word


def shows_enough(basin, rights, site, room, paper):
    """Whether a paper, whatever it is, shows that with a room no claim of a right is short."""
    if not is_room(basin, site, room) or not is_paper(paper, ENOUGH):
        return False
    plan = paper[1]
    if not is_plan(basin, rights, plan) or plan_fault(with_room(basin, site, room), rights, plan) is not None:
        return False
    return plan[0] == tuple([right[DEMANDS] for right in rights])


def shows_less(basin, rights, site, room, paper):
    """Whether a paper, whatever it is, shows that with a room a claim of a right is short."""
    if not is_room(basin, site, room) or not is_paper(paper, LESS) or not is_region(basin, paper[1]):
        return False
    most = most_within(with_room(basin, site, room), paper[1])
    return most is not None and demanded_within(basin, rights, paper[1]) > most


def demanded_within(basin, rights, region):
    """What all rights demand in the cells of a region."""
    total = 0
    for claim in claims(basin, rights):
        if claim[0] == "right" and claim_cell(basin, rights, claim) in region:
            total += claim_size(basin, rights, claim)
    return total


def room_paper(basin, rights, site, room):
    """A paper on a room for a site that is taken (u3)."""
    other = with_room(basin, site, room)
    for claim, _ in short_claims(other, rights):
        if claim[0] == "right":
            return LESS, reason(other, rights, claim)
    return ENOUGH, operation(other, rights)


def least_room_paper(basin, rights, site):
    """A paper on the least room of a site that is taken (u3)."""
    room = least_room(basin, rights, site)
    held = held_at(basin, site)
    if room is None:
        return None, room_paper(basin, rights, site, held + all_water(basin))
    less = None if room == held else room_paper(basin, rights, site, room - 1)
    return room, (room_paper(basin, rights, site, room), less)
