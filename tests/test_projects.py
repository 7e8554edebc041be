"""e1, e2: edits of a basin, what is refused, effects, undo, the journal of a project."""

import functools
import random
import unittest

import odd
import oracle
from heldwater.basintext import parse_basin
from heldwater.errors import BadChange
from heldwater.flows import greatest
from heldwater.projects import Project

MILL = "site dale to mouth room 1 flow 6 1\nsite mouth flow 2 0\nright mill at mouth wants 3 4"
# The dale holds 2 of 4; its reach is 3.
HELD = (
    "site dale to mouth reach 3 room 4 held 2 flow 6 1\nsite mouth room 2 flow 2 0\n"
    "right mill at mouth wants 3 4\nright farm at dale wants 3 2"
)
PLACES = {"reach": 3, "room": 4, "held": 5, "inflows": 6}


def project_of(text, *edits):
    project = Project(*parse_basin(text))
    for change in edits:
        project.edit(change)
    return project


@functools.lru_cache(maxsize=None)
def greatest_deliveries(basin, rights):
    return oracle.deliveries_by_regions(basin, rights)


def state(project):
    return project.basin(), project.rights(), project.deliveries(), project.journal()


class Model:
    """What e1 and e2 tell, done again in another way: all basins are kept, and all lines."""

    def __init__(self, basin, rights):
        self.rights = rights
        self.basins = [basin]
        self.lines = []

    def refusal(self, change):
        kind, name, amount = change
        months, sites = self.basins[-1]
        found = [site for site in sites if site[0] == name]
        room, held = (found[0][4], found[0][5]) if found else (0, 0)
        amounts = amount if kind == "inflows" and type(amount) is tuple else (amount,)
        whole = all(type(part) is int and part >= 0 for part in amounts) or (kind == "reach" and amount is None)
        small = whole and (amount is None or kind == "held" or max(amounts, default=0) <= 99)
        shaped = type(amount) is tuple and len(amount) == months if kind == "inflows" else type(amount) is not tuple
        reasons = (
            ("no such site", not found), ("outlet", kind == "reach" and name == sites[-1][0]),
            ("no such amount", not (whole and small and shaped)),
            ("held above room", kind == "room" and whole and amount < held), ("held above room", kind == "held" and whole and amount > room),
            ("too many changes", len(self.basins) == 31),
        )
        return next((reason for reason, so in reasons if so), None)

    def edit(self, change):
        kind, name, amount = change
        months, sites = self.basins[-1]
        place = PLACES[kind]
        later = (months, tuple(site[:place] + (amount,) + site[place + 1:] if site[0] == name else site for site in sites))
        before, after = greatest_deliveries(self.basins[-1], self.rights), greatest_deliveries(later, self.rights)
        self.basins.append(later)
        pieces = list(amount) if kind == "inflows" else ["none" if amount is None else amount]
        self.lines.append(" ".join(map(str, [kind, name] + pieces)))
        return tuple(
            (right[0], m, before[r][m], after[r][m])
            for r, right in enumerate(self.rights) for m in range(months) if before[r][m] != after[r][m]
        )

    def undo(self):
        if len(self.basins) == 1:
            return False
        self.basins.pop()
        self.lines.append("undo")
        return True

    def state(self):
        basin = self.basins[-1]
        return basin, self.rights, greatest_deliveries(basin, self.rights), "".join(line + "\n" for line in self.lines)


class Edits(unittest.TestCase):
    def test_at_first(self):
        for text in (MILL, HELD, "site s flow 5"):
            basin, rights = parse_basin(text)
            self.assertEqual(state(Project(basin, rights)), (basin, rights, oracle.deliveries_by_regions(basin, rights), ""))

    def told(self, text, change, effects, line):
        with self.subTest((text, change)):
            project = project_of(text)
            self.assertEqual(project.edit(change), effects)
            self.assertEqual(project.journal(), line + "\n")
            months, sites = parse_basin(text)[0]
            kind, name, amount = change
            for before, after in zip(sites, project.basin()[1]):
                place = PLACES[kind]
                wanted = before[:place] + (amount,) + before[place + 1:] if before[0] == name else before
                self.assertEqual(after, wanted)
            self.assertEqual(project.basin()[0], months)
            self.assertEqual(project.rights(), parse_basin(text)[1])
            self.assertEqual(project.deliveries(), oracle.deliveries_by_regions(project.basin(), project.rights()))

    def test_room(self):
        self.told(MILL, ("room", "dale", 4), (("mill", 1, 2, 4),), "room dale 4")
        self.told(MILL, ("room", "dale", 0), (("mill", 1, 2, 1),), "room dale 0")
        self.told(MILL, ("room", "dale", 99), (("mill", 1, 2, 4),), "room dale 99")
        self.told(MILL, ("room", "dale", 1), (), "room dale 1")
        self.told(MILL, ("room", "mouth", 2), (("mill", 1, 2, 4),), "room mouth 2")
        # just what is held: the mouth stores the rest
        self.told(HELD, ("room", "dale", 2), (), "room dale 2")

    def test_reach(self):
        self.told(MILL, ("reach", "dale", 0), (("mill", 0, 3, 2), ("mill", 1, 2, 0)), "reach dale 0")
        self.told(MILL, ("reach", "dale", 99), (), "reach dale 99")
        self.told(MILL, ("reach", "dale", None), (), "reach dale none")
        self.told(HELD, ("reach", "dale", None), (), "reach dale none")
        self.told(HELD, ("reach", "dale", 1), (("mill", 1, 4, 1), ("farm", 1, 1, 2)), "reach dale 1")

    def test_held(self):
        self.told(HELD, ("held", "dale", 0), (("farm", 0, 3, 2), ("farm", 1, 1, 0)), "held dale 0")
        self.told(HELD, ("held", "dale", 4), (("farm", 1, 1, 2),), "held dale 4")
        self.told(MILL, ("held", "dale", 1), (), "held dale 1")
        self.told(MILL, ("held", "mouth", 0), (), "held mouth 0")

    def test_inflows(self):
        self.told(MILL, ("inflows", "dale", (0, 9)), (("mill", 0, 3, 2), ("mill", 1, 2, 4)), "inflows dale 0 9")
        self.told(MILL, ("inflows", "dale", (0, 0)), (("mill", 0, 3, 2), ("mill", 1, 2, 0)), "inflows dale 0 0")
        self.told(MILL, ("inflows", "mouth", (99, 99)), (("mill", 1, 2, 4),), "inflows mouth 99 99")
        self.told(MILL, ("inflows", "dale", (6, 1)), (), "inflows dale 6 1")
        self.told("site s flow 5", ("inflows", "s", (7,)), (), "inflows s 7")

    def test_one_edit_behind_the_other(self):
        project = project_of(MILL)
        self.assertEqual(project.edit(("room", "dale", 4)), (("mill", 1, 2, 4),))
        self.assertEqual(project.edit(("inflows", "dale", (0, 9))), (("mill", 0, 3, 2),))
        self.assertEqual(project.edit(("held", "dale", 4)), (("mill", 0, 2, 3),))
        self.assertEqual(project.edit(("reach", "dale", 0)), (("mill", 0, 3, 2), ("mill", 1, 4, 0)))
        self.assertEqual(project.edit(("reach", "dale", None)), (("mill", 0, 2, 3), ("mill", 1, 0, 4)))
        self.assertEqual(project.basin()[1][0], ("dale", "mouth", 0, None, 4, 4, (0, 9)))
        self.assertEqual(project.journal(), "room dale 4\ninflows dale 0 9\nheld dale 4\nreach dale 0\nreach dale none\n")

    def test_a_site_called_none(self):
        text = "site none to s reach 1 flow 5\nsite s flow 0\nright a at s wants 5"
        self.told(text, ("reach", "none", None), (("a", 0, 1, 5),), "reach none none")

    def test_the_rights_in_order_month_by_month(self):
        text = "site s room 9 flow 0 0\nright b at s wants 1 1\nright a at s wants 1 1\nright c at s wants 1 1"
        self.told(text, ("inflows", "s", (2, 9)), (
            ("b", 0, 0, 1), ("b", 1, 0, 1), ("a", 0, 0, 1), ("a", 1, 0, 1), ("c", 1, 0, 1),
        ), "inflows s 2 9")

    def test_no_rights(self):
        self.told("site s room 4 flow 5", ("room", "s", 0), (), "room s 0")

    def test_what_is_handed_in_stays(self):
        basin, rights = parse_basin(HELD)
        project, other = Project(basin, rights), Project(basin, rights)
        project.edit(("room", "dale", 9))
        self.assertEqual((basin, rights), parse_basin(HELD))
        self.assertEqual(state(other), state(project_of(HELD)))

    def test_shape(self):
        project = project_of(HELD, ("reach", "dale", 1))
        for found in (project.edit(("reach", "dale", 0)), project.basin(), project.rights(), project.deliveries()):
            for _, part in odd.with_parts(found):
                self.assertIsInstance(part, (tuple, str, int, type(None)))


class Refused(unittest.TestCase):
    def refused(self, project, change, why):
        kept = state(project)
        with self.subTest(repr(change)):
            with self.assertRaises(BadChange) as caught:
                project.edit(change)
            self.assertEqual(caught.exception.reason, why)
            # nothing changes
            self.assertEqual(state(project), kept)

    def busy(self):
        project = project_of(HELD)
        for k in range(30):
            project.edit(("room", "dale", 4 + k % 3))
        return project

    def test_no_such_site(self):
        for kind, amount in (("room", 1), ("reach", None), ("reach", 1), ("held", 0), ("inflows", (1, 1))):
            for name in ("sea", "mill", "", "Dale", "dal"):
                self.refused(project_of(HELD), (kind, name, amount), "no such site")

    def test_outlet(self):
        for amount in (None, 0, 5, 99):
            self.refused(project_of(HELD), ("reach", "mouth", amount), "outlet")
            self.refused(project_of("site s flow 5"), ("reach", "s", amount), "outlet")

    def test_no_such_amount(self):
        for amount in (-1, 100, 101, 12345, True, False, (5,), (5, 5), "5", 5.0) + odd.ODD_THINGS:
            self.refused(project_of(HELD), ("room", "dale", amount), "no such amount")
            self.refused(project_of(HELD), ("reach", "dale", amount), "no such amount")
            # what is held is bounded by the room alone
            if type(amount) is not int or amount < 100:
                self.refused(project_of(HELD), ("held", "dale", amount), "no such amount")
        for kind in ("room", "held"):
            self.refused(project_of(HELD), (kind, "dale", None), "no such amount")
            self.refused(project_of(HELD), (kind, "mouth", None), "no such amount")

    def test_no_such_inflows(self):
        for amount in (
            (), (5,), (5, 5, 5), (5, -1), (-1, 5), (100, 5), (5, 100), (5, True), (False, 5), (5, None), (None, None), 5, None,
            True, [5, 5], "55", (5, (5,)), ((5, 5),), (5, "5"),
        ) + odd.ODD_THINGS:
            self.refused(project_of(HELD), ("inflows", "dale", amount), "no such amount")
            self.refused(project_of(HELD), ("inflows", "mouth", amount), "no such amount")
        for thing in odd.ODD_THINGS:
            self.refused(project_of(HELD), ("inflows", "dale", (thing, 5)), "no such amount")

    def test_the_bounds_are_taken(self):
        project = project_of(HELD, ("room", "dale", 99), ("reach", "dale", 99), ("reach", "dale", 0), ("held", "dale", 99),
                             ("held", "dale", 0), ("room", "dale", 0), ("inflows", "dale", (0, 99)))
        self.assertEqual(project.basin()[1][0], ("dale", "mouth", 0, 0, 0, 0, (0, 99)))

    def test_held_above_room(self):
        for amount in (0, 1):
            self.refused(project_of(HELD), ("room", "dale", amount), "held above room")
        for amount in (5, 6, 99, 100, 12345):
            self.refused(project_of(HELD), ("held", "dale", amount), "held above room")
        for amount in (1, 2, 100):
            self.refused(project_of(MILL), ("held", "mouth", amount), "held above room")
        # as they are now, not as they were at first
        project = project_of(HELD, ("held", "dale", 4))
        self.refused(project, ("room", "dale", 3), "held above room")
        project.edit(("room", "dale", 6))
        self.refused(project, ("held", "dale", 7), "held above room")
        self.assertEqual(project.edit(("held", "dale", 6)), ())

    def test_too_many_changes(self):
        for change in (("room", "dale", 4), ("reach", "dale", None), ("held", "dale", 1), ("inflows", "mouth", (1, 1))):
            project = self.busy()
            self.refused(project, change, "too many changes")
            self.assertIs(project.undo(), True)
            project.edit(change)
            self.refused(project, change, "too many changes")

    def test_thirty_edits_and_the_thirty_first(self):
        project = self.busy()
        self.assertEqual(project.journal().count("\n"), 30)
        self.refused(project, ("room", "dale", 9), "too many changes")
        for _ in range(30):
            self.assertIs(project.undo(), True)
        self.assertIs(project.undo(), False)
        self.assertEqual(project.basin(), parse_basin(HELD)[0])
        # undone edits do not count, whatever the journal has
        for _ in range(40):
            project.edit(("room", "dale", 9))
            project.undo()
        self.assertEqual(project.journal().count("\n"), 140)

    def test_the_first_of_two(self):
        project = project_of(HELD)
        self.refused(project, ("room", "sea", -1), "no such site")
        self.refused(project, ("reach", "sea", 100), "no such site")
        self.refused(project, ("inflows", "sea", 5), "no such site")
        self.refused(project, ("reach", "mouth", 100), "outlet")
        self.refused(project, ("reach", "mouth", True), "outlet")
        self.refused(project, ("room", "dale", -1), "no such amount")
        self.refused(project, ("held", "dale", True), "no such amount")
        busy = self.busy()
        for change, why in (
            (("room", "sea", 1), "no such site"), (("reach", "mouth", None), "outlet"), (("room", "dale", 100), "no such amount"),
            (("inflows", "dale", (1,)), "no such amount"), (("reach", "dale", -1), "no such amount"),
            (("room", "dale", 1), "held above room"), (("held", "dale", 100), "held above room"),
            (("held", "dale", 1), "too many changes"),
        ):
            self.refused(busy, change, why)

    def test_refused_edits_do_not_count(self):
        project = project_of(HELD)
        for _ in range(40):
            self.refused(project, ("room", "dale", 1), "held above room")
        project.edit(("room", "dale", 3))
        self.assertEqual(project.journal(), "room dale 3\n")


class Undo(unittest.TestCase):
    def test_nothing(self):
        project = project_of(HELD)
        self.assertIs(project.undo(), False)
        self.assertEqual(state(project), state(project_of(HELD)))
        project.edit(("room", "dale", 9))
        self.assertIs(project.undo(), True)
        self.assertIs(project.undo(), False)
        self.assertEqual(project.journal(), "room dale 9\nundo\n")

    def test_back_to_the_start(self):
        project = project_of(HELD)
        seen = [state(project)]
        for change in (("reach", "dale", 0), ("room", "mouth", 9), ("held", "mouth", 5), ("inflows", "dale", (0, 0)),
                       ("reach", "dale", None)):
            project.edit(change)
            seen.append(state(project))
        for then in seen[-2::-1]:
            self.assertIs(project.undo(), True)
            self.assertEqual(state(project)[:3], then[:3])
        self.assertIs(project.undo(), False)
        self.assertEqual(project.journal(), seen[-1][3] + "undo\n" * 5)

    def test_the_last_edit_that_was_not_undone(self):
        project = project_of(HELD, ("room", "dale", 9), ("held", "dale", 9))
        project.undo()
        project.edit(("held", "dale", 0))
        project.undo()
        project.undo()
        self.assertEqual(project.basin(), parse_basin(HELD)[0])
        self.assertEqual(project.journal(), "room dale 9\nheld dale 9\nundo\nheld dale 0\nundo\nundo\n")


class Promised(unittest.TestCase):
    def change(self, luck, basin):
        months, sites = basin
        site = luck.choice(sites)
        name = luck.choice((site[0],) * 9 + ("sea",))
        kind = luck.choice(("room", "reach", "held", "inflows"))
        if kind == "inflows":
            many = months + luck.choice((0,) * 8 + (-1, 1))
            return kind, name, tuple(luck.choice((0, 1, 2, 3, 5, luck.choice((99, 100, -1, True)))) for _ in range(many))
        amount = luck.choice((0, 1, 1, 2, 2, 3, 4, luck.choice((None, 99, 100, -1, True))))
        return kind, name, None if kind == "reach" and luck.random() < 0.2 else amount

    def test_edits_undos_and_edits_again(self):
        luck = random.Random(701)
        reasons = set()
        for basin, rights in oracle.middle_rivers(702, 8):
            project, model = Project(basin, rights), Model(basin, rights)
            for k in range(130):
                if luck.random() < (0.4 if k < 30 else 0.02):
                    self.assertIs(project.undo(), model.undo())
                    self.assertEqual(state(project), model.state())
                    continue
                change = self.change(luck, model.basins[-1])
                why = model.refusal(change)
                reasons.add(why)
                with self.subTest((model.state(), change)):
                    if why is None:
                        self.assertEqual(project.edit(change), model.edit(change))
                    else:
                        with self.assertRaises(BadChange) as caught:
                            project.edit(change)
                        self.assertEqual(caught.exception.reason, why)
                self.assertEqual(state(project), model.state())
            while model.undo():
                self.assertIs(project.undo(), True)
            self.assertIs(project.undo(), False)
            self.assertEqual(state(project), model.state())
        self.assertEqual(reasons, {None, "no such site", "outlet", "no such amount", "held above room", "too many changes"})

    def test_more_room_reach_and_inflow_give_no_row_of_first_rights_less(self):
        luck = random.Random(703)
        shifted = 0
        for basin, rights in oracle.middle_rivers(704, 60):
            project = Project(basin, rights)
            for _ in range(6):
                site = luck.choice(project.basin()[1])
                kind = luck.choice(("room", "reach", "inflows"))
                more = luck.randint(1, 3)
                if kind == "reach" and site[3] is None:
                    continue
                amount = site[PLACES[kind]]
                amount = tuple(a + luck.randint(0, more) for a in amount) if kind == "inflows" else amount + more
                before, claims_before = project.deliveries(), greatest(project.basin(), rights)
                effects = project.edit((kind, site[0], amount))
                after, claims_after = project.deliveries(), greatest(project.basin(), rights)
                self.assertGreaterEqual(claims_after[0], claims_before[0])
                for k in range(len(rights) + 1):
                    self.assertLessEqual(sum(map(sum, before[:k])), sum(map(sum, after[:k])))
                shifted += any(told[3] < told[2] for told in effects)
        # Later claims can get less.
        self.assertGreater(shifted, 0)

    def test_beyond_the_limits(self):
        basin = (5, (("upper", "lower", 3, 500, 3000, 3000, (0,) * 5), ("lower", None, 0, None, 900, 0, (500,) * 5)))
        project = Project(basin, (("longname", "lower", (1000,) * 5),))
        self.assertEqual(project.edit(("held", "upper", 2000)), ())
        self.assertEqual(project.edit(("reach", "upper", 7)), (("longname", 3, 1000, 507), ("longname", 4, 1000, 507)))
        self.assertEqual(project.journal(), "held upper 2000\nreach upper 7\n")


if __name__ == "__main__":
    unittest.main()
