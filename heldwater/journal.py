"""Journals: dockets, seasons and projects that are made again from theirs (j1)."""

from heldwater.basintext import MOST_WATER
from heldwater.changes import UNDO
from heldwater.dockets import Docket
from heldwater.errors import BadChange, BadJournal, Ended
from heldwater.projects import NO_LIMIT, Project
from heldwater.seasons import Season
from heldwater.words import is_name, number, number_within

# For each word with which a line begins the kinds of pieces behind it. Amounts, one for each month
# or for each site, stand last.
DOCKET_LINES = {
    "file": ("name", "name", "number", "amounts"),
    "withdraw": ("name",),
    "move": ("name", "name"),
    "demands": ("name", "amounts"),
    "rank": ("name", "number"),
    "undo": (),
}
SEASON_LINES = {"close": ("amounts",), "undo": ()}
PROJECT_LINES = {
    "room": ("name", "number"),
    "reach": ("name", "limit"),
    "held": ("name", "number"),
    "inflows": ("name", "amounts"),
    "undo": (),
}


def replay_docket(basin, text):
    """The docket of a beginning of a journal; raises BadJournal."""
    docket = Docket(basin)
    for k, line in enumerate(whole_lines(text)):
        told = read_line(DOCKET_LINES.get(first_word(line)), line, basin[0])
        if told is None or not lead_docket(docket, told):
            raise BadJournal(k + 1)
    return docket


def replay_season(basin, rights, text):
    """The season of a beginning of a journal; raises BadJournal."""
    season = Season(basin, rights)
    for k, line in enumerate(whole_lines(text)):
        told = read_line(SEASON_LINES.get(first_word(line)), line, len(basin[1]))
        if told is None or not lead_season(season, told):
            raise BadJournal(k + 1)
    return season


def replay_project(basin, rights, text):
    """The project of a beginning of a journal; raises BadJournal."""
    project = Project(basin, rights)
    for k, line in enumerate(whole_lines(text)):
        told = read_line(PROJECT_LINES.get(first_word(line)), line, basin[0])
        if told is None or not lead_project(project, told):
            raise BadJournal(k + 1)
    return project


def whole_lines(text):
    """The lines that have a newline behind them."""
    return text.split("\n")[:-1]


def first_word(line):
    """What stands ahead of the first space of a line."""
    return line.split(" ")[0]


def read_line(kinds, line, many):
    """What the pieces of a line write, if they are of these kinds, its word first; otherwise None."""
    if kinds is None:
        return None
    word, *pieces = line.split(" ")
    each = list(kinds)
    if "amounts" in each:
        each = each[:-1] + ["amount"] * many
    if len(pieces) != len(each):
        return None
    for kind, piece in zip(each, pieces):
        if not is_piece(kind, piece):
            return None
    return [word] + [read_piece(kind, piece) for kind, piece in zip(each, pieces)]


def is_piece(kind, piece):
    """Whether a piece is written as one of this kind is."""
    if kind == "name":
        return is_name(piece)
    if kind == "amount":
        return number_within(piece, 0, MOST_WATER) is not None
    return (kind == "limit" and piece == NO_LIMIT) or number(piece) is not None


def read_piece(kind, piece):
    """What a piece of this kind writes."""
    # No limit is told by None, just as number() tells what is none.
    return piece if kind == "name" else number(piece)


def lead_docket(docket, told):
    """Does with a docket what a line tells; whether it is not refused."""
    if told[0] == UNDO:
        return docket.undo()
    change = tuple(told)
    if told[0] == "file":
        change = ("file", (told[1], told[2], tuple(told[4:])), told[3])
    if told[0] == "demands":
        change = ("demands", told[1], tuple(told[2:]))
    try:
        docket.apply(change)
    except BadChange:
        return False
    return True


def lead_season(season, told):
    """Does with a season what a line tells; whether it is not refused."""
    if told[0] == UNDO:
        return season.undo()
    try:
        season.close(tuple(told[1:]))
    except Ended:
        return False
    return True


def lead_project(project, told):
    """Does with a project what a line tells; whether it is not refused."""
    if told[0] == UNDO:
        return project.undo()
    change = tuple(told)
    if told[0] == "inflows":
        change = ("inflows", told[1], tuple(told[2:]))
    try:
        project.edit(change)
    except BadChange:
        return False
    return True
