"""n1 to n3: tables and ensembles, what is sure in them, hindsight."""

import itertools
import random
import unittest

import odd
import oracle
from heldwater.basintext import parse_basin
from heldwater.ensembles import (
    hindsight, of_table, reliability, sure_deliveries, sure_room, sure_yield, worst_table,
)
from heldwater.errors import BadArgument
from heldwater.flows import delivered, greatest
from heldwater.seasons import Season
from heldwater.sizes import firm_yield, least_room

DALE = (
    "site dale to mouth room 4 flow 6 1\nsite mouth flow 2 0\n"
    "right mill at mouth wants 3 4\nright farm at dale wants 3 2"
)
DRY, WET, LATE = ((2, 1), (2, 0)), ((9, 9), (2, 0)), ((0, 9), (0, 9))
FORECAST = ((6, 1), (2, 0))


def ensembles(seed, many):
    """Triples (basin, rights, ensemble) by luck: dry and wet tables, and the same one twice."""
    luck = random.Random(seed)
    found = []
    for basin, rights in oracle.middle_rivers(seed + 1, many):
        tables = []
        for _ in range(luck.choice((1, 2, 3, 4))):
            most = luck.choice((0, 1, 2, 4, 9))
            tables.append(tuple(tuple(luck.randint(0, most) for _ in range(basin[0])) for _ in basin[1]))
            if luck.random() < 0.2:
                tables.append(luck.choice(tables))
        if luck.random() < 0.3:
            tables[0] = tuple(site[6] for site in basin[1])
        found.append((basin, rights, tuple(tables[:4])))
    return found


def rows_by_tables(basin, rights, ensemble):
    return [oracle.deliveries_by_regions(oracle.with_inflows(basin, table), rights) for table in ensemble]


class OfTable(unittest.TestCase):
    def test_by_hand(self):
        basin, rights = parse_basin(DALE)
        self.assertEqual(of_table(basin, WET), (2, (
            ("dale", "mouth", 0, None, 4, 0, (9, 9)), ("mouth", None, 0, None, 0, 0, (2, 0)),
        )))
        self.assertEqual(basin, parse_basin(DALE)[0])
        self.assertEqual(of_table(basin, FORECAST), basin)

    def test_all_else_as_it_is(self):
        for basin, _, ensemble in ensembles(501, 20):
            for table in ensemble:
                self.assertEqual(of_table(basin, table), oracle.with_inflows(basin, table))

    def test_one_site_and_one_month(self):
        basin = parse_basin("site s room 3 held 2 flow 5")[0]
        self.assertEqual(of_table(basin, ((0,),)), (1, (("s", None, 0, None, 3, 2, (0,)),)))
        self.assertEqual(of_table(basin, ((250,),)), (1, (("s", None, 0, None, 3, 2, (250,)),)))


class Reliability(unittest.TestCase):
    def told(self, ensemble, found, text=DALE):
        with self.subTest((text, ensemble)):
            self.assertEqual(reliability(*parse_basin(text), ensemble), found)

    def test_by_hand(self):
        self.told((DRY, WET), (1, 1))
        self.told((WET,), (1, 1))
        self.told((DRY,), (0, 0))
        self.told((FORECAST,), (1, 0))
        self.told((FORECAST, WET, DRY, FORECAST), (3, 1))
        self.told((WET, WET, WET, WET), (4, 4))
        self.told((LATE, DRY), (0, 0))

    def test_every_month_counts_and_rooms_do_not(self):
        text = "site s room 9 flow 0 0\nright a at s wants 2 0\nright b at s wants 0 3"
        self.told((((2, 3),), ((1, 9),), ((4, 0),), ((0, 3),)), (2, 3), text)
        self.told((((0, 0),),), (1,), "site s room 9 flow 5 5\nright a at s wants 0 0")

    def test_no_rights(self):
        self.told((DRY, WET), (), "site dale to mouth room 4 flow 6 1\nsite mouth flow 2 0")

    def test_table_by_table(self):
        counts = set()
        for basin, rights, ensemble in ensembles(502, 60):
            with self.subTest((basin, rights, ensemble)):
                tables = rows_by_tables(basin, rights, ensemble)
                found = tuple(sum(rows[r] == right[2] for rows in tables) for r, right in enumerate(rights))
                self.assertEqual(reliability(basin, rights, ensemble), found)
                counts.update(found)
        self.assertLessEqual({0, 1, 2, 3, 4}, counts)


class SureDeliveries(unittest.TestCase):
    def test_by_hand(self):
        basin, rights = parse_basin(DALE)
        self.assertEqual(sure_deliveries(basin, rights, (DRY, WET)), ((3, 2), (0, 0)))
        self.assertEqual(sure_deliveries(basin, rights, (WET,)), ((3, 4), (3, 2)))
        self.assertEqual(sure_deliveries(basin, rights, (FORECAST,)), delivered(basin, rights))
        # the least of each month, whatever the table
        self.assertEqual(delivered(of_table(basin, LATE), rights), ((0, 4), (0, 2)))
        self.assertEqual(sure_deliveries(basin, rights, (LATE, FORECAST)), ((0, 4), (0, 0)))
        self.assertEqual(sure_deliveries(basin, rights, (DRY, LATE, WET, DRY)), ((0, 2), (0, 0)))

    def test_no_rights(self):
        self.assertEqual(sure_deliveries(parse_basin(DALE)[0], (), (DRY, WET)), ())

    def test_table_by_table(self):
        for basin, rights, ensemble in ensembles(503, 60):
            with self.subTest((basin, rights, ensemble)):
                tables = rows_by_tables(basin, rights, ensemble)
                self.assertEqual(sure_deliveries(basin, rights, ensemble), tuple(
                    tuple(min(rows[r][m] for rows in tables) for m in range(basin[0])) for r in range(len(rights))
                ))

    def test_shape(self):
        basin, rights = parse_basin(DALE)
        for found in (sure_deliveries(basin, rights, (DRY, WET)), reliability(basin, rights, (DRY, WET)),
                      hindsight(basin, rights, WET), of_table(basin, WET)):
            for _, part in odd.with_parts(found):
                self.assertIsInstance(part, (tuple, str, int, type(None)))
                self.assertNotIsInstance(part, bool)


class WorstTable(unittest.TestCase):
    def told(self, ensemble, name, k):
        with self.subTest((ensemble, name)):
            self.assertEqual(worst_table(*parse_basin(DALE), ensemble, name), k)

    def test_by_hand(self):
        self.told((DRY, WET), "mill", 0)
        self.told((WET, DRY), "mill", 1)
        self.told((WET, DRY), "farm", 1)
        # In all months together: 3 + 2, 0 + 4, 3 + 4 for the mill; 0, 2, 2 for the farm.
        self.told((DRY, LATE, FORECAST), "mill", 1)
        self.told((FORECAST, LATE, DRY), "farm", 2)

    def test_the_first_of_several(self):
        self.told((DRY, DRY), "mill", 0)
        self.told((WET, DRY, DRY, FORECAST), "mill", 1)
        self.told((WET, FORECAST, LATE), "farm", 1)
        self.told((WET, LATE, FORECAST), "farm", 1)
        self.told((FORECAST, WET), "mill", 0)
        self.told((WET,), "farm", 0)

    def test_no_right_is_called_so(self):
        basin, rights = parse_basin(DALE)
        for order, name in ((rights, "inn"), (rights, "dale"), (rights, ""), (rights, "mil"), (rights, "Mill"), ((), "mill"),
                            (rights[:1], "farm")):
            with self.subTest((order, name)):
                with self.assertRaises(BadArgument) as caught:
                    worst_table(basin, order, (DRY, WET), name)
                self.assertEqual(caught.exception.reason, "name")

    def test_table_by_table(self):
        found = set()
        for basin, rights, ensemble in ensembles(504, 60):
            tables = rows_by_tables(basin, rights, ensemble)
            for r, right in enumerate(rights):
                with self.subTest((basin, rights, ensemble, r)):
                    totals = [sum(rows[r]) for rows in tables]
                    (k, *_) = [k for k, total in enumerate(totals) if total == min(totals)]
                    self.assertEqual(worst_table(basin, rights, ensemble, right[0]), k)
                    found.add(k)
        self.assertEqual(found, {0, 1, 2, 3})


class SureYield(unittest.TestCase):
    def told(self, text, site, ensemble, amount):
        with self.subTest((text, site, ensemble)):
            self.assertEqual(sure_yield(*parse_basin(text), site, ensemble), amount)

    def test_by_hand(self):
        text = DALE.split("\nright")[0]
        self.told(text, "mouth", (DRY, WET), 2)
        self.told(text, "mouth", (WET,), 10)
        self.told(text, "mouth", (WET, FORECAST), 4)
        self.told(text, "dale", (WET, FORECAST, DRY, WET), 1)
        self.told(text, "dale", (WET,), 9)

    def test_0(self):
        self.told(DALE, "mouth", (DRY, WET), 0)
        self.told(DALE, "mouth", (WET, WET, LATE), 0)
        self.told("site s room 9 held 9 flow 9", "s", (((0,),), ((9,),)), 9)
        self.told("site s flow 9", "s", (((0,),), ((9,),)), 0)

    def test_beside_rights(self):
        self.told(DALE, "dale", (WET,), 4)
        self.told(DALE, "dale", (WET, FORECAST), 0)
        text = "site s room 9 flow 9 9" + "".join(f"\nright {name} at s wants 1 2" for name in "abcd")
        self.told(text, "s", (((9, 9),), ((20, 3),)), 3)

    def test_above_99(self):
        self.told("site s room 99 held 99 flow 1", "s", (((99,),), ((40,),)), 139)
        self.told("site s flow 1", "s", (((300,),), ((200,),)), 200)

    def test_trying_every_demand(self):
        amounts = set()
        for basin, rights, ensemble in ensembles(505, 40):
            for name, *_ in basin[1]:
                with self.subTest((basin, rights, ensemble, name)):
                    amount = sure_yield(basin, rights, name, ensemble)
                    self.assertEqual(amount, self.tried(basin, rights, name, ensemble))
                    self.assertEqual(amount, min(firm_yield(oracle.with_inflows(basin, table), rights, name)
                                                 for table in ensemble))
                    amounts.add(amount)
        self.assertGreater(len(amounts), 3)

    def tried(self, basin, rights, name, ensemble):
        for amount in itertools.count(1):
            more = rights + (("more", name, (amount,) * basin[0]),)
            if any(rows[-1] != more[-1][2] for rows in rows_by_tables(basin, more, ensemble)):
                return amount - 1


class SureRoom(unittest.TestCase):
    def told(self, text, site, ensemble, room):
        with self.subTest((text, site, ensemble)):
            self.assertEqual(sure_room(*parse_basin(text), site, ensemble), room)

    def test_by_hand(self):
        text = DALE.split("\nright farm")[0]
        self.told(text, "dale", (FORECAST,), 3)
        self.told(text, "dale", (FORECAST, WET), 3)
        self.told(text, "dale", (WET, WET), 0)
        self.told(text, "dale", (((9, 2), (0, 0)), FORECAST), 3)
        self.told(text, "dale", (((9, 0), (0, 0)), FORECAST), 4)
        self.told(text, "mouth", (((9, 0), (0, 0)), FORECAST), 0)

    def test_none(self):
        self.told(DALE, "dale", (WET, DRY), None)
        self.told(DALE, "dale", (DRY,), None)
        self.told(DALE, "mouth", (WET, WET, WET, LATE), None)

    def test_what_is_held(self):
        text = "site s room 5 held 3 flow 4 4\nright a at s wants 4 4"
        self.told(text, "s", (((4, 4),), ((9, 9),)), 3)
        self.told(text, "s", (((4, 0),), ((9, 9),)), None)
        self.told(text, "s", (((5, 0),), ((9, 9),)), 4)

    def test_no_rights(self):
        self.told("site s room 5 held 3 flow 4 4", "s", (((0, 0),), ((9, 9),)), 3)

    def test_above_99(self):
        text = "site s flow 0 0\nright a at s wants 0 99\nright b at s wants 0 99"
        self.told(text, "s", (((99, 99),), ((150, 60),)), 138)
        self.told(text, "s", (((300, 0),), ((99, 99),)), 198)

    def test_trying_every_room(self):
        rooms = set()
        for basin, rights, ensemble in self.modest():
            for s, (name, *_) in enumerate(basin[1]):
                with self.subTest((basin, rights, ensemble, name)):
                    room = sure_room(basin, rights, name, ensemble)
                    self.assertEqual(room, self.tried(basin, rights, s, ensemble))
                    least = [least_room(oracle.with_inflows(basin, table), rights, name) for table in ensemble]
                    self.assertEqual(room, None if None in least else max(least))
                    rooms.add(room)
        self.assertGreater(len(rooms), 4)
        self.assertIn(None, rooms)

    def modest(self):
        """Rivers whose rights demand little, and late, so that rooms matter."""
        luck = random.Random(506)
        for basin, rights, ensemble in ensembles(507, 60):
            rights = tuple(
                (name, place, (0,) * (basin[0] - 1) + (luck.randint(0, 6),)) for name, place, _ in rights[:2]
            )
            yield basin, rights, tuple(
                tuple((row[0] + 3,) + row[1:] for row in table) if luck.random() < 0.8 else table for table in ensemble
            )

    def tried(self, basin, rights, s, ensemble):
        name, held = basin[1][s][0], basin[1][s][5]
        tables = [oracle.with_inflows(basin, table) for table in ensemble]
        for room in range(held, max(map(oracle.all_water, tables)) + 2):
            if all(oracle.all_served(oracle.with_room(table, name, room), rights) for table in tables):
                return room
        return None


class Hindsight(unittest.TestCase):
    def test_by_hand(self):
        basin, rights = parse_basin(DALE)
        self.assertEqual(hindsight(basin, rights, WET), ((7, 7), (5, 5)))
        # In month 0 the mill gets 3, as forecast, and 1 of 2 is let down for it.
        self.assertEqual(hindsight(basin, rights, DRY), ((5, 5), (0, 0)))
        self.assertEqual(hindsight(basin, (), WET), ())

    def test_a_forecast_that_was_wrong(self):
        # 4 are kept for the older right, and then 4 more come in.
        basin, rights = parse_basin("site s room 9 flow 4 0\nright a at s wants 0 4\nright b at s wants 4 0")
        self.assertEqual(hindsight(basin, rights, ((4, 4),)), ((4, 4), (0, 4)))
        # 4 are given away, because 4 more are forecast, and none come in.
        basin, rights = parse_basin("site s room 9 flow 4 4\nright a at s wants 0 4\nright b at s wants 4 0")
        self.assertEqual(hindsight(basin, rights, ((4, 0),)), ((0, 4), (4, 0)))

    def test_the_forecast_itself(self):
        for basin, rights, _ in ensembles(508, 40):
            forecast = tuple(site[6] for site in basin[1])
            totals = [sum(row) for row in oracle.deliveries_by_regions(basin, rights)]
            self.assertEqual(hindsight(basin, rights, forecast), tuple(zip(totals, totals)))

    def test_a_season_that_is_closed_with_the_table(self):
        apart = 0
        for basin, rights, ensemble in ensembles(509, 90):
            for table in ensemble:
                with self.subTest((basin, rights, table)):
                    season = Season(basin, rights)
                    for inflows in zip(*table):
                        season.close(inflows)
                    got = [sum(row) for row in season.expected()]
                    best = [sum(row) for row in oracle.deliveries_by_regions(oracle.with_inflows(basin, table), rights)]
                    self.assertEqual(hindsight(basin, rights, table), tuple(zip(got, best)))
                    for k in range(len(rights) + 1):
                        self.assertLessEqual(sum(got[:k]), sum(best[:k]))
                    apart += got != best
        self.assertGreater(apart, 8)

    def test_tables_above_99(self):
        basin, rights = parse_basin(DALE)
        self.assertEqual(hindsight(basin, rights, ((150, 100), (2, 300))), ((7, 7), (5, 5)))
        basin, rights = parse_basin("site s room 99 flow 0 0\nright a at s wants 0 99\nright b at s wants 0 99")
        self.assertEqual(hindsight(basin, rights, ((0, 150),)), ((99, 99), (51, 51)))

    def test_beyond_the_limits(self):
        basin = (5, (("upper", "lower", 3, 500, 3000, 3000, (0,) * 5), ("lower", None, 0, None, 900, 0, (500,) * 5)))
        rights = tuple((f"right{k}", "lower", (200,) * 5) for k in range(5))
        tables = (((0,) * 5, (100,) * 5), ((0,) * 5, (1000,) * 5), ((0,) * 5, (500,) * 5)) * 2
        self.assertEqual(sure_deliveries(basin, rights, tables), delivered(of_table(basin, tables[0]), rights))
        self.assertEqual(reliability(basin, rights, tables), tuple(
            sum(delivered(of_table(basin, table), rights)[r] == (200,) * 5 for table in tables) for r in range(5)
        ))
        self.assertEqual(worst_table(basin, rights, tables, "right0"), 0)
        self.assertEqual(sure_yield(basin, (), "lower", tables), 100)
        self.assertEqual(sure_room(basin, (), "lower", tables), 0)
        self.assertEqual(sum(best for _, best in hindsight(basin, rights, tables[1])),
                         sum(greatest(of_table(basin, tables[1]), rights)[:25]))


if __name__ == "__main__":
    unittest.main()
