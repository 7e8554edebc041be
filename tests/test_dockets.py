"""d1, d2, and j1 of a docket: changes, what is refused, effects, undo, the journal."""

import functools
import itertools
import random
import unittest

import odd
import oracle
from heldwater.basintext import parse_basin
from heldwater.dockets import Docket
from heldwater.errors import BadChange

BASIN = parse_basin("site dale to mouth room 4 flow 6 1\nsite mouth flow 2 0")[0]
MILL, FARM = ("mill", "mouth", (3, 4)), ("farm", "dale", (3, 2))
INN, FORGE = ("inn", "mouth", (1, 1)), ("forge", "dale", (0, 9))


def docket_of(*rights, basin=BASIN):
    docket = Docket(basin)
    for rank, right in enumerate(rights):
        docket.apply(("file", right, rank))
    return docket


@functools.lru_cache(maxsize=None)
def greatest_deliveries(basin, order):
    return oracle.deliveries_by_regions(basin, order)


def state(docket):
    return docket.rights(), docket.deliveries(), docket.journal()


class Model:
    """What d1 and d2 tell, done again in another way: all orders are kept, and all lines."""

    def __init__(self, basin):
        self.basin = basin
        self.orders = [[]]
        self.lines = []

    def refusal(self, change):
        kind, order = change[0], self.orders[-1]
        names = [right[0] for right in order]
        sites = [site[0] for site in self.basin[1]]
        name, place, rank, many = change[1], None, None, len(order)
        if kind == "file":
            name, place = change[1][:2]
            rank, many = change[2], len(order) + 1
        if kind == "move":
            place = change[2]
        if kind == "rank":
            rank = change[2]
        reasons = (
            ("name taken", kind == "file" and name in names), ("too many rights", kind == "file" and len(order) == 4),
            ("no such right", kind != "file" and name not in names), ("no such site", place is not None and place not in sites),
            ("no such rank", rank is not None and rank not in range(many)), ("too many changes", len(self.orders) == 31),
        )
        return next((reason for reason, so in reasons if so), None)

    def after(self, change):
        kind, order = change[0], list(self.orders[-1])
        if kind == "file":
            order.insert(change[2], change[1])
            return order
        (at,) = [k for k, right in enumerate(order) if right[0] == change[1]]
        name, place, demands = order.pop(at)
        if kind == "move":
            order.insert(at, (name, change[2], demands))
        if kind == "demands":
            order.insert(at, (name, place, change[2]))
        if kind == "rank":
            order.insert(change[2], (name, place, demands))
        return order

    def rows(self, order):
        return dict(zip([right[0] for right in order], greatest_deliveries(self.basin, tuple(order))))

    def effects(self, change):
        now, then = self.orders[-1], self.after(change)
        before, after = self.rows(now), self.rows(then)
        names = [right[0] for right in now] + ([change[1][0]] if change[0] == "file" else [])
        none = (0,) * self.basin[0]
        return tuple(
            (name, m, before.get(name, none)[m], after.get(name, none)[m])
            for name in names for m in range(self.basin[0]) if before.get(name, none)[m] != after.get(name, none)[m]
        )

    def apply(self, change):
        told = self.effects(change)
        self.orders.append(self.after(change))
        flat = [change[0]]
        for part in change[1:]:
            flat.append(part)
        if change[0] == "file":
            name, place, demands = change[1]
            flat = ["file", name, place, change[2], *demands]
        if change[0] == "demands":
            flat = ["demands", change[1], *change[2]]
        self.lines.append(" ".join(map(str, flat)))
        return told

    def undo(self):
        if len(self.orders) == 1:
            return False
        self.orders.pop()
        self.lines.append("undo")
        return True

    def state(self):
        order = tuple(self.orders[-1])
        return order, greatest_deliveries(self.basin, order), "".join(line + "\n" for line in self.lines)


class Changes(unittest.TestCase):
    def test_at_first(self):
        self.assertEqual(state(Docket(BASIN)), ((), (), ""))

    def test_file(self):
        docket = Docket(BASIN)
        self.assertEqual(docket.apply(("file", MILL, 0)), (("mill", 0, 0, 3), ("mill", 1, 0, 4)))
        self.assertEqual(state(docket), ((MILL,), ((3, 4),), "file mill mouth 0 3 4\n"))
        self.assertEqual(docket.apply(("file", FARM, 1)), (("farm", 0, 0, 2),))
        self.assertEqual(docket.rights(), (MILL, FARM))
        self.assertEqual(docket.deliveries(), ((3, 4), (2, 0)))

    def test_each_rank_of_a_right_that_is_filed(self):
        for many in range(4):
            others = (MILL, FARM, INN)[:many]
            for rank in range(many + 1):
                docket = docket_of(*others)
                docket.apply(("file", FORGE, rank))
                self.assertEqual(docket.rights(), others[:rank] + (FORGE,) + others[rank:])
                self.assertTrue(docket.journal().endswith(f"file forge dale {rank} 0 9\n"))

    def test_those_from_there_on_move_behind_it(self):
        docket = docket_of(MILL, FARM)
        # The farm is ahead again, as it would be alone.
        self.assertEqual(docket.apply(("file", INN, 0)), (("farm", 0, 2, 0), ("inn", 0, 0, 1), ("inn", 1, 0, 1)))
        self.assertEqual(docket.rights(), (INN, MILL, FARM))

    def test_withdraw(self):
        docket = docket_of(MILL, FARM)
        self.assertEqual(docket.apply(("withdraw", "mill")), (
            ("mill", 0, 3, 0), ("mill", 1, 4, 0), ("farm", 0, 2, 3), ("farm", 1, 0, 2),
        ))
        self.assertEqual(docket.rights(), (FARM,))
        self.assertEqual(docket.deliveries(), ((3, 2),))
        self.assertEqual(docket.apply(("withdraw", "farm")), (("farm", 0, 3, 0), ("farm", 1, 2, 0)))
        self.assertEqual((docket.rights(), docket.deliveries()), ((), ()))
        self.assertTrue(docket.journal().endswith("withdraw mill\nwithdraw farm\n"))

    def test_withdraw_each_of_four(self):
        for name, rest in (("mill", (FARM, INN, FORGE)), ("farm", (MILL, INN, FORGE)), ("inn", (MILL, FARM, FORGE)),
                           ("forge", (MILL, FARM, INN))):
            docket = docket_of(MILL, FARM, INN, FORGE)
            docket.apply(("withdraw", name))
            self.assertEqual(docket.rights(), rest)

    def test_move(self):
        docket = docket_of(MILL, INN)
        # From the dale on the mill cannot use what comes in at the mouth.
        self.assertEqual(docket.apply(("move", "mill", "dale")), (("inn", 1, 1, 0),))
        self.assertEqual(docket.rights(), (("mill", "dale", (3, 4)), INN))
        self.assertEqual(docket.deliveries(), ((3, 4), (1, 0)))
        self.assertEqual(docket.apply(("move", "inn", "dale")), (("inn", 0, 1, 0),))
        self.assertEqual(docket.rights(), (("mill", "dale", (3, 4)), ("inn", "dale", (1, 1))))
        self.assertTrue(docket.journal().endswith("move mill dale\nmove inn dale\n"))

    def test_move_to_where_it_is(self):
        docket = docket_of(MILL, FARM)
        self.assertEqual(docket.apply(("move", "farm", "dale")), ())
        self.assertEqual(docket.rights(), (MILL, FARM))
        self.assertTrue(docket.journal().endswith("move farm dale\n"))
        self.assertTrue(docket.undo())
        self.assertEqual(docket.rights(), (MILL, FARM))

    def test_demands(self):
        docket = docket_of(MILL, FARM)
        self.assertEqual(docket.apply(("demands", "mill", (0, 3))), (
            ("mill", 0, 3, 0), ("mill", 1, 4, 3), ("farm", 0, 2, 3), ("farm", 1, 0, 1),
        ))
        self.assertEqual(docket.rights(), (("mill", "mouth", (0, 3)), FARM))
        self.assertEqual(docket.apply(("demands", "farm", (99, 10))), (("farm", 0, 3, 4), ("farm", 1, 1, 0)))
        self.assertTrue(docket.journal().endswith("demands mill 0 3\ndemands farm 99 10\n"))

    def test_rank(self):
        docket = docket_of(MILL, FARM)
        self.assertEqual(docket.apply(("rank", "farm", 0)), (("mill", 1, 4, 1), ("farm", 0, 2, 3), ("farm", 1, 0, 2)))
        self.assertEqual(docket.rights(), (FARM, MILL))
        self.assertEqual(docket.apply(("rank", "farm", 1)), (("farm", 0, 3, 2), ("farm", 1, 2, 0), ("mill", 1, 1, 4)))
        self.assertEqual(docket.rights(), (MILL, FARM))
        self.assertTrue(docket.journal().endswith("rank farm 0\nrank farm 1\n"))

    def test_rank_from_each_place_to_each(self):
        every = (MILL, FARM, INN, FORGE)
        for many in (1, 2, 3, 4):
            for start, rank in itertools.product(range(many), repeat=2):
                docket = docket_of(*every[:many])
                docket.apply(("rank", every[start][0], rank))
                rest = every[:start] + every[start + 1:many]
                self.assertEqual(docket.rights(), rest[:rank] + (every[start],) + rest[rank:])

    def test_the_basin_stays(self):
        kept = parse_basin("site dale to mouth room 4 flow 6 1\nsite mouth flow 2 0")[0]
        docket = docket_of(MILL, FARM)
        docket.apply(("move", "mill", "dale"))
        self.assertEqual(BASIN, kept)

    def test_dockets_beside_each_other(self):
        one, other = docket_of(MILL), docket_of(FARM, INN)
        one.apply(("withdraw", "mill"))
        self.assertEqual(other.rights(), (FARM, INN))
        self.assertEqual(one.rights(), ())
        other.undo()
        self.assertEqual(one.journal(), "file mill mouth 0 3 4\nwithdraw mill\n")


class Refused(unittest.TestCase):
    def refused(self, docket, change, why):
        kept = state(docket)
        for call in (docket.effects, docket.apply):
            with self.subTest(change):
                with self.assertRaises(BadChange) as caught:
                    call(change)
                self.assertEqual(caught.exception.reason, why)
                # nothing changes
                self.assertEqual(state(docket), kept)

    def full(self):
        return docket_of(MILL, FARM, INN, FORGE)

    def busy(self):
        """A docket with two rights and thirty changes."""
        docket = docket_of(MILL, FARM)
        for k in range(28):
            docket.apply(("demands", "farm", (k % 5, 2)))
        return docket

    def test_name_taken(self):
        for docket in (docket_of(MILL), docket_of(FARM, MILL), self.full()):
            self.refused(docket, ("file", ("mill", "dale", (9, 9)), 0), "name taken")

    def test_a_name_that_was_withdrawn_is_free(self):
        docket = docket_of(MILL, FARM)
        docket.apply(("withdraw", "mill"))
        docket.apply(("file", MILL, 1))
        self.assertEqual(docket.rights(), (FARM, MILL))

    def test_too_many_rights(self):
        for rank in range(5):
            self.refused(self.full(), ("file", ("new", "dale", (1, 1)), rank), "too many rights")

    def test_no_such_right(self):
        for docket in (Docket(BASIN), docket_of(MILL), docket_of(MILL, FARM)):
            for change in (("withdraw", "inn"), ("move", "inn", "dale"), ("demands", "inn", (1, 1)), ("rank", "inn", 0),
                           ("withdraw", "dale"), ("withdraw", "")):
                self.refused(docket, change, "no such right")

    def test_no_such_site(self):
        for place in ("sea", "mill", "", "Dale"):
            self.refused(docket_of(MILL), ("file", ("new", place, (1, 1)), 0), "no such site")
            self.refused(docket_of(MILL), ("move", "mill", place), "no such site")

    def test_no_such_rank(self):
        for rank in (-1, -2, 3, 4, 99):
            self.refused(docket_of(MILL, FARM), ("file", INN, rank), "no such rank")
        for rank in (-1, -2, 2, 3, 99):
            self.refused(docket_of(MILL, FARM), ("rank", "mill", rank), "no such rank")
            self.refused(docket_of(MILL, FARM), ("rank", "farm", rank), "no such rank")
        self.refused(Docket(BASIN), ("file", INN, 1), "no such rank")
        self.refused(Docket(BASIN), ("file", INN, -1), "no such rank")
        self.refused(docket_of(MILL), ("rank", "mill", 1), "no such rank")
        self.refused(self.full(), ("rank", "mill", 4), "no such rank")

    def test_too_many_changes(self):
        for change in (("file", INN, 0), ("withdraw", "mill"), ("move", "mill", "dale"), ("demands", "mill", (1, 1)),
                       ("rank", "mill", 1)):
            docket = self.busy()
            self.refused(docket, change, "too many changes")
            self.assertTrue(docket.undo())
            self.assertEqual(docket.effects(change), docket.apply(change))
            self.refused(docket, ("rank", "farm", 0), "too many changes")

    def test_thirty_changes_and_the_thirty_first(self):
        docket = docket_of(MILL, FARM)
        for k in range(28):
            docket.apply(("rank", "farm", k % 2))
        self.refused(docket, ("rank", "farm", 0), "too many changes")
        for _ in range(30):
            self.assertIs(docket.undo(), True)
        self.assertIs(docket.undo(), False)
        self.assertEqual(docket.rights(), ())
        self.assertEqual(docket.journal().count("\n"), 60)
        # undone changes do not count, whatever the journal has
        for _ in range(30):
            docket.apply(("file", MILL, 0))
            docket.undo()
        self.assertEqual(docket.journal().count("\n"), 120)

    def test_refused_changes_and_effects_do_not_count(self):
        docket = docket_of(MILL, FARM)
        for _ in range(40):
            docket.effects(("rank", "farm", 0))
            with self.assertRaises(BadChange):
                docket.apply(("withdraw", "inn"))
        docket.apply(("rank", "farm", 0))
        self.assertEqual(docket.journal(), "file mill mouth 0 3 4\nfile farm dale 1 3 2\nrank farm 0\n")

    def test_the_first_of_two(self):
        new = ("new", "sea", (1, 1))
        self.refused(self.full(), ("file", ("mill", "sea", (1, 1)), 9), "name taken")
        self.refused(self.full(), ("file", new, 9), "too many rights")
        self.refused(docket_of(MILL), ("file", new, 9), "no such site")
        self.refused(docket_of(MILL), ("move", "new", "sea"), "no such right")
        self.refused(docket_of(MILL), ("rank", "new", 9), "no such right")
        busy = self.busy()
        for change, why in (
            (("file", ("mill", "sea", (1, 1)), 9), "name taken"), (("file", new, 9), "no such site"),
            (("file", INN, 9), "no such rank"), (("withdraw", "new"), "no such right"), (("move", "mill", "sea"), "no such site"),
            (("rank", "mill", 2), "no such rank"), (("demands", "new", (1, 1)), "no such right"),
            (("demands", "mill", (1, 1)), "too many changes"),
        ):
            self.refused(busy, change, why)
        full = self.full()
        for k in range(26):
            full.apply(("rank", "mill", k % 2))
        self.refused(full, ("file", new, 9), "too many rights")
        self.refused(full, ("file", FARM, 9), "name taken")
        self.refused(full, ("withdraw", "farm"), "too many changes")


class Effects(unittest.TestCase):
    def test_told_ahead(self):
        docket = docket_of(MILL, FARM)
        kept = state(docket)
        for change in (("file", INN, 0), ("withdraw", "mill"), ("move", "mill", "dale"), ("demands", "mill", (1, 1)),
                       ("rank", "mill", 1)):
            told = docket.effects(change)
            self.assertEqual(state(docket), kept)
            self.assertEqual(docket.apply(change), told)
            docket.undo()
            self.assertEqual(docket.rights(), kept[0])
            kept = state(docket)

    def test_the_rights_in_the_order_ahead_of_the_change_then_one_that_is_filed(self):
        basin = parse_basin("site s flow 3 3")[0]
        docket = docket_of(("a", "s", (2, 2)), ("b", "s", (1, 1)), basin=basin)
        self.assertEqual(docket.apply(("file", ("c", "s", (3, 3)), 0)), (
            ("a", 0, 2, 0), ("a", 1, 2, 0), ("b", 0, 1, 0), ("b", 1, 1, 0), ("c", 0, 0, 3), ("c", 1, 0, 3),
        ))
        self.assertEqual(docket.apply(("rank", "b", 0)), (("c", 0, 3, 2), ("c", 1, 3, 2), ("b", 0, 0, 1), ("b", 1, 0, 1)))
        self.assertEqual(docket.apply(("withdraw", "c")), (
            ("c", 0, 2, 0), ("c", 1, 2, 0), ("a", 0, 0, 2), ("a", 1, 0, 2),
        ))

    def test_only_where_they_differ(self):
        basin = parse_basin("site s flow 3 3 3")[0]
        docket = docket_of(("a", "s", (2, 0, 3)), ("b", "s", (1, 1, 1)), basin=basin)
        self.assertEqual(docket.effects(("demands", "a", (2, 3, 0))), (
            ("a", 1, 0, 3), ("a", 2, 3, 0), ("b", 1, 1, 0), ("b", 2, 0, 1),
        ))
        self.assertEqual(docket.effects(("demands", "a", (2, 0, 9))), ())
        self.assertEqual(docket.effects(("file", ("c", "s", (1, 0, 1)), 2)), ())
        self.assertEqual(docket.effects(("file", ("c", "s", (0, 0, 0)), 0)), ())

    def test_shape(self):
        docket = docket_of(MILL, FARM)
        for found in (docket.effects(("rank", "farm", 0)), docket.rights(), docket.deliveries(), docket.apply(("withdraw", "mill"))):
            self.assertIsInstance(found, tuple)
            for _, part in odd.with_parts(found):
                self.assertIsInstance(part, (tuple, str, int))


class Undo(unittest.TestCase):
    def test_nothing(self):
        docket = Docket(BASIN)
        self.assertIs(docket.undo(), False)
        self.assertEqual(docket.journal(), "")
        docket.apply(("file", MILL, 0))
        self.assertIs(docket.undo(), True)
        self.assertIs(docket.undo(), False)
        self.assertIs(docket.undo(), False)
        self.assertEqual(state(docket), ((), (), "file mill mouth 0 3 4\nundo\n"))

    def test_back_to_nothing(self):
        docket = docket_of(MILL, FARM)
        changes = [("rank", "farm", 0), ("demands", "mill", (9, 9)), ("move", "mill", "dale"), ("file", INN, 1), ("withdraw", "farm")]
        seen = [(), (MILL,), (MILL, FARM)]
        for change in changes:
            docket.apply(change)
            seen.append(docket.rights())
        for rights in seen[-2::-1]:
            self.assertIs(docket.undo(), True)
            self.assertEqual(docket.rights(), rights)
            self.assertEqual(docket.deliveries(), oracle.deliveries_by_regions(BASIN, rights))
        self.assertIs(docket.undo(), False)
        self.assertTrue(docket.journal().endswith("withdraw farm\n" + "undo\n" * 7))

    def test_the_last_change_that_was_not_undone(self):
        docket = docket_of(MILL, FARM)
        docket.apply(("rank", "farm", 0))
        docket.undo()
        docket.apply(("withdraw", "mill"))
        docket.undo()
        docket.undo()
        self.assertEqual(docket.rights(), (MILL,))
        docket.apply(("file", INN, 0))
        self.assertEqual(docket.rights(), (INN, MILL))
        self.assertEqual(docket.journal(), (
            "file mill mouth 0 3 4\nfile farm dale 1 3 2\nrank farm 0\nundo\nwithdraw mill\nundo\nundo\nfile inn mouth 0 1 1\n"
        ))


class ByLuck(unittest.TestCase):
    def change(self, luck, basin, order):
        sites = [site[0] for site in basin[1]] + ["nowhere"]
        names = [right[0] for right in order] * 2 + list("pqrstu")
        demands = tuple(luck.randint(0, 4) for _ in range(basin[0]))
        kind = luck.choice(("file",) * 4 + ("withdraw", "move", "move", "demands", "demands", "rank", "rank"))
        name, place, rank = luck.choice(names), luck.choice(sites), luck.randint(-1, len(order) + 1)
        return {
            "file": ("file", (name, place, demands), rank), "withdraw": ("withdraw", name), "move": ("move", name, place),
            "demands": ("demands", name, demands), "rank": ("rank", name, rank),
        }[kind]

    def test_changes_undos_and_changes_again(self):
        luck = random.Random(101)
        reasons = set()
        for basin, _ in oracle.middle_rivers(102, 8):
            docket, model = Docket(basin), Model(basin)
            for k in range(130):
                if luck.random() < (0.4 if k < 30 else 0.02):
                    self.assertIs(docket.undo(), model.undo())
                    self.assertEqual(state(docket), model.state())
                    continue
                change = self.change(luck, basin, model.orders[-1])
                why = model.refusal(change)
                reasons.add(why)
                if why is None:
                    self.assertEqual(docket.effects(change), model.effects(change))
                    self.assertEqual(docket.apply(change), model.apply(change))
                else:
                    with self.assertRaises(BadChange) as caught:
                        docket.apply(change)
                    self.assertEqual(caught.exception.reason, why)
                self.assertEqual(state(docket), model.state())
            while model.undo():
                self.assertIs(docket.undo(), True)
            self.assertIs(docket.undo(), False)
            self.assertEqual(state(docket), model.state())
        self.assertEqual(reasons, {
            None, "name taken", "too many rights", "no such right", "no such site", "no such rank", "too many changes",
        })

    def test_beyond_the_limits(self):
        basin = (5, (("upper", "lower", 3, 500, 3000, 3000, (0,) * 5), ("lower", None, 0, None, 900, 0, (500,) * 5)))
        docket = Docket(basin)
        self.assertEqual(docket.apply(("file", ("longname", "lower", (1000,) * 5), 0)), tuple(
            ("longname", m, 0, amount) for m, amount in enumerate((500, 500, 500, 1000, 1000))
        ))
        self.assertEqual(docket.journal(), "file longname lower 0 1000 1000 1000 1000 1000\n")


if __name__ == "__main__":
    unittest.main()
