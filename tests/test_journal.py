"""j1 and heldwater/journal.py: what is made again of journals, and of beginnings of them; what is refused."""

import random
import unittest

import oracle
from heldwater.basintext import parse_basin
from heldwater.dockets import Docket
from heldwater.errors import BadChange, BadJournal, Ended
from heldwater.journal import replay_docket, replay_project, replay_season
from heldwater.projects import Project
from heldwater.seasons import Season

# The dale holds 2 of 4; its reach is 3.
BASIN, RIGHTS = parse_basin(
    "site dale to mouth reach 3 room 4 held 2 flow 6 1\nsite mouth room 2 flow 2 0\n"
    "right mill at mouth wants 3 4\nright farm at dale wants 3 2"
)
MILL = "file mill mouth 0 3 4\n"
FARM = "file farm dale 1 3 2\n"


class DocketKind:
    word = "docket"
    refusals = (BadChange,)

    def new(self, basin, rights):
        return Docket(basin)

    def again(self, basin, rights, text):
        return replay_docket(basin, text)

    def state(self, docket):
        return docket.rights(), docket.deliveries(), docket.journal()

    def step(self, luck, docket, basin, rights):
        sites = [site[0] for site in basin[1]] + ["sea"]
        names = [right[0] for right in docket.rights()] * 2 + list("pqrst")
        demands = tuple(luck.choice((0, 1, 2, 9, 10, 99)) for _ in range(basin[0]))
        kind = luck.choice(("file",) * 4 + ("withdraw", "move", "demands", "demands", "rank", "rank"))
        name, place, rank = luck.choice(names), luck.choice(sites), luck.randint(0, 4)
        docket.apply({
            "file": ("file", (name, place, demands), rank), "withdraw": ("withdraw", name), "move": ("move", name, place),
            "demands": ("demands", name, demands), "rank": ("rank", name, rank),
        }[kind])


class SeasonKind:
    word = "season"
    refusals = (Ended,)

    def new(self, basin, rights):
        return Season(basin, rights)

    def again(self, basin, rights, text):
        return replay_season(basin, rights, text)

    def state(self, season):
        return season.month(), season.records(), season.expected(), season.outlook(), season.journal()

    def step(self, luck, season, basin, rights):
        season.close(tuple(luck.choice((0, 1, 2, 3, 10, 99)) for _ in basin[1]))


class ProjectKind:
    word = "project"
    refusals = (BadChange,)

    def new(self, basin, rights):
        return Project(basin, rights)

    def again(self, basin, rights, text):
        return replay_project(basin, rights, text)

    def state(self, project):
        return project.basin(), project.rights(), project.deliveries(), project.journal()

    def step(self, luck, project, basin, rights):
        name = luck.choice([site[0] for site in basin[1]] + ["sea"])
        kind = luck.choice(("room", "reach", "held", "inflows"))
        amount = luck.choice((0, 1, 2, 3, 10, 99, 100))
        if kind == "reach" and luck.random() < 0.3:
            amount = None
        if kind == "inflows":
            amount = tuple(luck.choice((0, 1, 2, 10, 99)) for _ in range(basin[0]))
        project.edit((kind, name, amount))


KINDS = (DocketKind(), SeasonKind(), ProjectKind())


def undos(thing):
    """How often something can be undone."""
    many = 0
    while thing.undo():
        many += 1
    return many


def led(kind, seed, basin, rights, most):
    """Something led by luck, and its states behind each line of its journal."""
    luck = random.Random(seed)
    thing = kind.new(basin, rights)
    states = [kind.state(thing)]
    while len(states) <= most:
        try:
            if luck.random() < 0.25:
                if not thing.undo():
                    continue
            else:
                kind.step(luck, thing, basin, rights)
        except kind.refusals:
            continue
        states.append(kind.state(thing))
    return thing, states


class MadeAgain(unittest.TestCase):
    def rivers(self):
        return [(BASIN, RIGHTS), *oracle.middle_rivers(801, 5)]

    def journals(self):
        for kind in KINDS:
            for seed, (basin, rights) in enumerate(self.rivers()):
                yield kind, basin, rights, led(kind, seed, basin, rights, 25)

    def same(self, kind, basin, rights, text, state, journal):
        """Whether what is made again of a text has a state, and undoes as often as its journal leaves."""
        again = kind.again(basin, rights, text)
        self.assertEqual(kind.state(again), state)
        self.assertEqual(again.journal(), journal)
        left = sum(-1 if line == "undo" else 1 for line in journal.splitlines())
        self.assertEqual(undos(again), left)

    def test_whole(self):
        for kind, basin, rights, (thing, states) in self.journals():
            with self.subTest((kind.word, basin, thing.journal())):
                self.assertEqual(len(thing.journal().splitlines()), 25)
                self.same(kind, basin, rights, thing.journal(), states[-1], thing.journal())

    def test_cut_anywhere(self):
        for kind, basin, rights, (thing, states) in self.journals():
            text = thing.journal()
            whole = [k for k in range(len(text)) if text[k] == "\n"]
            for at in range(len(text) + 1):
                if at > 60 and at % 7 and text[at - 1:at] != "\n" and text[at:at + 1] != "\n":
                    continue
                beginning = text[:at]
                lines = sum(k < at for k in whole)
                with self.subTest((kind.word, basin, beginning)):
                    again = kind.again(basin, rights, beginning)
                    self.assertEqual(kind.state(again), states[lines])
                    self.assertEqual(again.journal(), beginning[:beginning.rfind("\n") + 1])

    def test_cut_behind_each_line_and_undone(self):
        for kind, basin, rights, (thing, states) in self.journals():
            lines = thing.journal().splitlines(keepends=True)
            for many, state in enumerate(states):
                journal = "".join(lines[:many])
                self.same(kind, basin, rights, journal, state, journal)
                self.same(kind, basin, rights, journal + "und", state, journal)

    def test_the_empty_text(self):
        for kind in KINDS:
            for basin, rights in self.rivers():
                again = kind.again(basin, rights, "")
                self.assertEqual(kind.state(again), kind.state(kind.new(basin, rights)))
                self.assertIs(again.undo(), False)

    def test_led_on(self):
        for kind in KINDS:
            for basin, rights in self.rivers():
                thing, _ = led(kind, 5, basin, rights, 8)
                again = kind.again(basin, rights, thing.journal())
                for seed in range(30):
                    results = []
                    for one in (thing, again):
                        luck = random.Random(seed)
                        try:
                            results.append((one.undo() if luck.random() < 0.3 else kind.step(luck, one, basin, rights), None))
                        except kind.refusals as refusal:
                            results.append((None, str(refusal)))
                    self.assertEqual(*results)
                    self.assertEqual(kind.state(thing), kind.state(again))

    def test_thirty_that_can_be_undone(self):
        docket = replay_docket(BASIN, MILL + "demands mill 1 1\n" * 29 + "undo\ndemands mill 9 9\n")
        with self.assertRaises(BadChange) as caught:
            docket.apply(("withdraw", "mill"))
        self.assertEqual(caught.exception.reason, "too many changes")
        self.assertEqual(undos(docket), 30)
        project = replay_project(BASIN, RIGHTS, "room dale 4\nundo\n" * 40 + "reach dale none\n" * 30)
        with self.assertRaises(BadChange) as caught:
            project.edit(("room", "dale", 4))
        self.assertEqual(caught.exception.reason, "too many changes")
        self.assertEqual(undos(project), 30)

    def test_what_there_was(self):
        docket = replay_docket(BASIN, MILL + FARM + "rank farm 0\nundo\nmove farm mouth\ndemands mill 0 99\n")
        self.assertEqual(docket.rights(), (("mill", "mouth", (0, 99)), ("farm", "mouth", (3, 2))))
        season = replay_season(BASIN, RIGHTS, "close 0 99\nundo\nclose 6 2\nclose 10 0\n")
        self.assertEqual([record[0] for record in season.records()], [(6, 2), (10, 0)])
        project = replay_project(BASIN, RIGHTS, "room dale 99\nheld dale 99\nreach dale none\ninflows mouth 0 99\n")
        self.assertEqual(project.basin(), (2, (
            ("dale", "mouth", 0, None, 99, 99, (6, 1)), ("mouth", None, 0, None, 2, 0, (0, 99)),
        )))

    def test_arguments_stay(self):
        kept = (BASIN, RIGHTS)
        replay_project(BASIN, RIGHTS, "room dale 99\nheld dale 99\n")
        replay_season(BASIN, RIGHTS, "close 1 1\n")
        replay_docket(BASIN, MILL)
        self.assertEqual((BASIN, RIGHTS), kept)
        self.assertEqual(BASIN[1][0], ("dale", "mouth", 0, 3, 4, 2, (6, 1)))


# For each kind lines that are taken at the start, one behind the other.
TAKEN = {
    "docket": [MILL, FARM, "move farm mouth\n", "demands farm 0 99\n", "rank farm 0\n", "undo\n", "withdraw mill\n"],
    "season": ["close 6 2\n", "undo\n", "close 0 99\n", "close 10 0\n", "undo\n"],
    "project": ["room dale 5\n", "reach dale 0\n", "reach dale none\n", "held dale 5\n", "inflows dale 0 99\n", "undo\n"],
}

# For each kind lines that are none.
NO_LINES = {
    "docket": [
        "file", "file inn", "file inn dale", "file inn dale 0", "file inn dale 0 1", "file inn dale 0 1 1 1", "file inn 0 1 1",
        "file inn dale 1 1", "file dale 0 1 1", "file Inn dale 0 1 1", "file inns1 dale 0 1 1", "file longest dale 0 1 1",
        "file inn Dale 0 1 1", "file inn thedale 0 1 1", "file inn dale 00 1 1", "file inn dale 0 01 1", "file inn dale 0 1 00",
        "file inn dale +0 1 1", "file inn dale -1 1 1", "file inn dale 0 -1 1", "file inn dale 0 1 +1", "file inn dale 0 100 1",
        "file inn dale 0 1 100", "file inn dale 0 1 99999999999999999999", "file inn dale 0 1 1.0", "file inn dale x 1 1",
        "file inn dale 0 1 x", "file  inn dale 0 1 1", "file inn dale 0  1 1", "file inn dale 0 1 1 ", " file inn dale 0 1 1",
        "File inn dale 0 1 1", "file inn dale 0 1 none", "file inn dale 0 1 1\r", "file\tinn dale 0 1 1",
        "withdraw", "withdraw mill farm", "withdraw Mill", "withdraw mill ", "withdraw  mill", " withdraw mill", "withdraw mill 0",
        "withdraw 0", "withdraw millers", "withdrew mill", "withdraw ", "withdraw m-ll", "withdraw m\u00fchl",
        "move", "move mill", "move mill dale 0", "move mill Dale", "move mill thedale", "move mill  dale", "move mill dale ",
        "move dale mill dale", "move mill 0", "mov mill dale",
        "demands", "demands mill", "demands mill 1", "demands mill 1 1 1", "demands mill 01 1", "demands mill 1 100",
        "demands mill -1 1", "demands mill 1 1 ", "demands mill  1 1", "demands 1 1", "demand mill 1 1", "demands mill 1, 1",
        "rank", "rank mill", "rank mill 0 0", "rank mill 00", "rank mill -0", "rank mill +0", "rank mill x", "rank mill 0 ",
        "rank  mill 0", "rank 0 mill", "rank mill \u0661", "rank mill 1_0",
        "undo 1", "undo ", " undo", "undone", "Undo", "UNDO", "undo undo", "", " ", "mill", "none", "redo", "close 1 1", "close",
        "room dale 4", "reach dale none", "reach dale 1", "held dale 1", "inflows dale 1 1", "right mill at mouth wants 3 4",
    ],
    "season": [
        "close", "close ", "close 1", "close 1 1 1", "close  1 1", "close 1  1", "close 1 1 ", " close 1 1", "close 01 1",
        "close 1 00", "close +1 1", "close -1 1", "close 1 -0", "close 100 1", "close 1 100", "close 1 12345678901234567890",
        "close x 1", "close 1 x", "close 1 1.0", "close 1,1", "close dale 1 1", "Close 1 1", "closed 1 1", "clos 1 1", "close 1 none",
        "close 1 \u0661", "close 1 1_0", "close 1 1\r", "close\t1 1", "close True 1",
        "undo 1", "undo ", " undo", "undone", "Undo", "undo undo", "", " ", "1 1", "open",
        "file mill mouth 0 3 4", "withdraw mill", "move mill dale", "demands mill 1 1", "rank mill 0", "room dale 4",
        "reach dale none", "held dale 1", "inflows dale 1 1",
    ],
    "project": [
        "room", "room dale", "room dale 4 4", "room dale 04", "room dale +4", "room dale -4", "room dale none", "room dale x",
        "room dale 4 ", "room  dale 4", " room dale 4", "room dale  4", "Room dale 4", "room Dale 4", "room thedale 4", "room 4 dale",
        "room d4le 4", "rooms dale 4", "room 4", "room dale 4.0", "room dale 1_0", "room dale 4\r", "room\tdale 4", "room dale ",
        "reach", "reach dale", "reach dale None", "reach dale none none", "reach dale non", "reach dale nones", "reach dale 01",
        "reach dale -1", "reach dale x", "reach dale  none", "reach dale none ", "reach none", "reach dale 1 none", "reach dale no limit",
        "reach Dale none", "reach dale \u0661",
        "held", "held dale", "held dale 01", "held dale -1", "held dale none", "held dale 1 1", "held dale x", "held dale 1 ",
        "held  dale 1", "hold dale 1", "held Dale 1", "held dale +1",
        "inflows", "inflows dale", "inflows dale 1", "inflows dale 1 1 1", "inflows dale 01 1", "inflows dale 1 100",
        "inflows dale 100 1", "inflows dale -1 1", "inflows dale 1 none", "inflows dale 1 1 ", "inflows dale  1 1", "inflows 1 1",
        "inflow dale 1 1", "inflows Dale 1 1", "inflows dale 1 x",
        "undo 1", "undo ", " undo", "undone", "Undo", "undo undo", "", " ", "none", "flow dale 1 1",
        "file mill mouth 0 3 4", "withdraw mill", "move mill dale", "demands mill 1 1", "rank mill 0", "close 1 1", "close",
    ],
}

# For each kind texts whose last line is refused.
REFUSED = {
    "docket": [
        "undo\n", MILL + "undo\nundo\n", MILL + "file mill dale 0 1 1\n", FARM,
        "".join(f"file {name} dale 0 1 1\n" for name in "abcde"), "withdraw mill\n", MILL + "withdraw farm\n",
        MILL + "withdraw mill\nwithdraw mill\n", "move mill dale\n", "demands mill 1 1\n", "rank mill 0\n",
        "file mill sea 0 1 1\n", MILL + "move mill sea\n", "file mill dale 1 1 1\n", MILL + "file farm dale 2 1 1\n",
        MILL + "file farm dale 99999999999999999999 1 1\n", MILL + "rank mill 1\n", MILL + "rank mill 12345678901234567890\n",
        MILL + "demands mill 1 1\n" * 30, MILL + "rank mill 0\n" * 30,
    ],
    "season": [
        "undo\n", "close 6 2\nundo\nundo\n", "close 6 2\nclose 6 2\nclose 6 2\n", "close 6 2\nclose 6 2\nundo\nclose 0 0\nclose 0 0\n",
    ],
    "project": [
        "undo\n", "room dale 5\nundo\nundo\n", "room sea 5\n", "reach sea none\n", "held sea 0\n", "inflows sea 1 1\n",
        "reach mouth none\n", "reach mouth 5\n", "room dale 100\n", "room dale 99999999999999999999\n", "reach dale 100\n",
        "reach dale 12345678901234567890\n", "room dale 1\n", "held dale 5\n", "held dale 100\n", "held dale 99999999999999999999\n",
        "held dale 4\nroom dale 3\n", "room dale 5\n" * 31, "reach dale none\nroom dale 5\nundo\n" + "room dale 5\n" * 30,
    ],
}


class Refused(unittest.TestCase):
    def refused(self, kind, text, place):
        with self.subTest((kind.word, text)):
            with self.assertRaises(BadJournal) as caught:
                kind.again(BASIN, RIGHTS, text)
            self.assertEqual(caught.exception.place, place)

    def test_what_is_taken(self):
        for kind in KINDS:
            lines = TAKEN[kind.word]
            for many in range(len(lines) + 1):
                journal = "".join(lines[:many])
                self.assertEqual(kind.again(BASIN, RIGHTS, journal).journal(), journal)

    def test_no_line(self):
        for kind in KINDS:
            lines = TAKEN[kind.word]
            for line in NO_LINES[kind.word]:
                self.refused(kind, line + "\n", 1)
                self.refused(kind, lines[0] + line + "\n", 2)
                self.refused(kind, "".join(lines) + line + "\n" + lines[0], len(lines) + 1)

    def test_a_last_line_without_its_newline_is_not_looked_at(self):
        for kind in KINDS:
            lines = TAKEN[kind.word]
            for line in NO_LINES[kind.word]:
                for journal in ("", lines[0], "".join(lines)):
                    self.assertEqual(kind.again(BASIN, RIGHTS, journal + line).journal(), journal)

    def test_refused(self):
        for kind in KINDS:
            for text in REFUSED[kind.word]:
                place = text.count("\n")
                self.refused(kind, text, place)
                self.refused(kind, text + "junk\n" + TAKEN[kind.word][0], place)
                # without the newline the last line is not looked at
                journal = "".join(text.splitlines(keepends=True)[:-1])
                self.assertEqual(kind.again(BASIN, RIGHTS, text[:-1]).journal(), journal)

    def test_the_first_of_several(self):
        for kind in KINDS:
            first = TAKEN[kind.word][0]
            self.refused(kind, first + "undo\nundo\n\n\n", 3)
            self.refused(kind, first + "junk\nundo\nundo\n", 2)
            self.refused(kind, "\n" + first, 1)
            self.refused(kind, first + "\n" + first, 2)
            self.refused(kind, first + "undo\n" + first + "undo\n\n", 5)

    def test_numbers_for_each_month_and_for_each_site(self):
        basin, rights = parse_basin(
            "site up to mid flow 1 1 1 1\nsite mid to low flow 1 1 1 1\nsite low flow 1 1 1 1\nright a at low wants 9 9 9 9"
        )
        self.assertEqual(replay_season(basin, rights, "close 1 2 3\n").month(), 1)
        self.assertEqual(replay_docket(basin, "file a up 0 1 2 3 4\n").rights(), (("a", "up", (1, 2, 3, 4)),))
        self.assertEqual(replay_project(basin, rights, "inflows up 1 2 3 4\n").basin()[1][0][6], (1, 2, 3, 4))
        for again in (
            lambda: replay_season(basin, rights, "close 1 2\n"), lambda: replay_season(basin, rights, "close 1 2 3 4\n"),
            lambda: replay_docket(basin, "file a up 0 1 2 3\n"), lambda: replay_docket(basin, "file a up 0 1 2 3 4 5\n"),
            lambda: replay_project(basin, rights, "inflows up 1 2 3\n"),
        ):
            with self.assertRaises(BadJournal) as caught:
                again()
            self.assertEqual(caught.exception.place, 1)

    def test_names_like_words(self):
        basin, rights = parse_basin("site none to undo reach 1 flow 1\nsite undo flow 0\nright close at undo wants 1")
        text = "file file none 0 1\nmove file undo\nrank file 0\nwithdraw file\nundo\n"
        docket = replay_docket(basin, text)
        self.assertEqual((docket.rights(), docket.journal()), ((("file", "undo", (1,)),), text))
        text = "reach none none\nroom undo 5\nreach none 0\n"
        project = replay_project(basin, rights, text)
        self.assertEqual((project.basin()[1][0][3], project.journal()), (0, text))


if __name__ == "__main__":
    unittest.main()
