"""s1 to s4, and j1 of a season: closing, what is expected, the outlook, undo, the journal."""

import itertools
import random
import unittest

import odd
import oracle
from heldwater.basintext import parse_basin
from heldwater.errors import BadArgument, Ended
from heldwater.flows import delivered, greatest
from heldwater.operations import operation
from heldwater.plans import plan_fault, spills
from heldwater.seasons import Season

DALE = (
    "site dale to mouth room 4 flow 6 1\nsite mouth flow 2 0\n"
    "right mill at mouth wants 3 4\nright farm at dale wants 3 2"
)
# Four sites and four months; from up water travels a month, from side two.
FOUR = (
    "site up to mid in 1 reach 9 room 6 held 2 flow 7 3 0 2\nsite side to low in 2 reach 4 room 3 flow 4 4 1 0\n"
    "site mid to low room 2 flow 1 0 0 1\nsite low flow 0 1 0 0\n"
    "right a at low wants 2 3 4 5\nright b at mid wants 1 4 1 4\nright c at up wants 3 0 3 3"
)


def season_of(text, *closed):
    season = Season(*parse_basin(text))
    for inflows in closed:
        season.close(inflows)
    return season


def state(season):
    return season.month(), season.expected(), season.outlook(), season.records(), season.journal()


def forecast_of(basin):
    return [tuple(site[6][m] for site in basin[1]) for m in range(basin[0])]


def as_it_came(basin, records):
    """The basin that had the actual inflows in the closed months."""
    months, sites = basin
    table = []
    for s, site in enumerate(sites):
        table.append([record[0][s] for record in records] + list(site[6][len(records):]))
    return oracle.with_inflows(basin, table)


def month_of(plan, m):
    return tuple(tuple(row[m] for row in rows) for rows in plan)


def start_of(records):
    """What was given, let down and stored in closed months, month by month."""
    return [record[1:4] for record in records]


def first_that_goes_on(basin, rights, plans, start):
    """Of all right plans that begin as told, the first of those that give most: tried one by one, without a rest."""
    plans = [plan for plan in plans if [month_of(plan, m) for m in range(len(start))] == start]
    most = max(oracle.given_to_claims(basin, rights, plan) for plan in plans)
    best = [plan for plan in plans if oracle.given_to_claims(basin, rights, plan) == most]
    return min(best, key=oracle.place_in_line)


def plans_of(basin, rights, most=6000):
    """All right plans of a basin, or None if there are too many."""
    plans = list(itertools.islice(oracle.right_plans(basin, rights), most + 1))
    return plans if len(plans) <= most else None


class Closing(unittest.TestCase):
    def told(self, text, *months):
        """Closes month by month: pairs (inflows, what is told)."""
        with self.subTest(text):
            season = season_of(text)
            for inflows, found in months:
                self.assertEqual(season.close(inflows), found)

    def test_one_month_one_site(self):
        text = "site s flow 5\nright a at s wants 3"
        self.told(text, ((5,), (((3,)), (0,), (0,), (2,))))
        self.told(text, ((4,), ((3,), (0,), (0,), (1,))))
        self.told(text, ((2,), ((2,), (0,), (0,), (0,))))
        self.told(text, ((0,), ((0,), (0,), (0,), (0,))))
        self.told(text, ((99,), ((3,), (0,), (0,), (96,))))
        self.told("site s room 2 held 1 flow 5\nright a at s wants 3", ((5,), ((3,), (0,), (2,), (1,))))
        self.told("site s room 2 held 1 flow 5", ((7,), ((), (0,), (2,), (6,))))

    def test_one_month_two_sites(self):
        text = "site dale to mouth room 1 flow 2\nsite mouth flow 2\nright mill at mouth wants 3"
        self.told(text, ((2, 2), ((3,), (1, 0), (1, 0), (0, 0))))
        self.told(text, ((5, 1), ((3,), (2, 0), (1, 0), (2, 0))))
        self.told(text, ((1, 0), ((1,), (1, 0), (0, 0), (0, 0))))

    def test_two_months(self):
        self.told(DALE, ((6, 2), ((3, 2), (1, 0), (3, 0), (0, 0))), ((1, 0), ((4, 0), (4, 0), (0, 0), (0, 0))))
        # more than was forecast, and less
        self.told(DALE, ((12, 2), ((3, 3), (1, 0), (4, 0), (4, 0))), ((9, 9), ((4, 2), (0, 0), (4, 0), (7, 5))))
        self.told(DALE, ((4, 2), ((3, 0), (1, 0), (3, 0), (0, 0))), ((0, 0), ((3, 0), (3, 0), (0, 0), (0, 0))))
        self.told(DALE, ((0, 0), ((0, 0), (0, 0), (0, 0), (0, 0))), ((0, 0), ((0, 0), (0, 0), (0, 0), (0, 0))))

    def test_the_forecast_of_later_months_counts(self):
        # What the mill is forecast to get later is not given to the farm now.
        for later, farm in ((0, 0), (2, 2), (3, 3), (4, 3)):
            text = f"site s room 9 flow 4 {later}\nright mill at s wants 0 4\nright farm at s wants 3 0"
            self.told(text, ((4,), ((0, farm), (0,), (4 - farm,), (0,))))

    def test_held_water_is_there_in_the_first_month_alone(self):
        text = "site s room 9 held 4 flow 0 0\nright a at s wants 1 9"
        self.told(text, ((0,), ((1,), (0,), (3,), (0,))), ((1,), ((4,), (0,), (0,), (0,))))

    def test_water_on_its_way_for_one_month(self):
        text = "site up to low in 1 flow 5 5 5\nsite low room 9 flow 0 0 0\nright a at low wants 0 9 2"
        self.told(
            text, ((5, 0), ((0,), (5, 0), (0, 0), (0, 0))), ((3, 0), ((5,), (3, 0), (0, 0), (0, 0))),
            ((7, 1), ((2,), (0, 0), (0, 2), (7, 0))),
        )

    def test_water_on_its_way_for_two_months(self):
        text = "site up to low in 2 flow 5 5 0 0\nsite low room 1 flow 0 0 0 0\nright a at low wants 9 9 4 9"
        # a month between: what is let down in month 0 arrives in month 2
        self.told(
            text, ((5, 0), ((0,), (5, 0), (0, 0), (0, 0))), ((2, 1), ((1,), (2, 0), (0, 0), (0, 0))),
            ((3, 0), ((4,), (0, 0), (0, 1), (3, 0))), ((0, 0), ((3,), (0, 0), (0, 0), (0, 0))),
        )

    def test_water_on_its_way_to_the_same_cell_from_two_sites(self):
        text = (
            "site far to low in 2 flow 3 0 0\nsite near to low in 1 flow 0 4 0\nsite low flow 0 0 1\nright a at low wants 0 0 9"
        )
        self.told(
            text, ((3, 0, 0), ((0,), (3, 0, 0), (0, 0, 0), (0, 0, 0))),
            ((0, 2, 0), ((0,), (0, 2, 0), (0, 0, 0), (0, 0, 0))), ((0, 0, 0), ((5,), (0, 0, 0), (0, 0, 0), (0, 0, 0))),
        )

    def test_what_would_arrive_behind_the_last_month_is_not_let_down(self):
        for travel in (1, 2):
            text = f"site up to low in {travel} flow 5 5\nsite low flow 0 0\nright a at low wants 9 9"
            season = season_of(text)
            self.assertEqual(season.close((5, 0)), ((0,), (5 if travel == 1 else 0, 0), (0, 0), (0 if travel == 1 else 5, 0)))
            self.assertEqual(season.close((5, 0)), ((5 if travel == 1 else 0,), (0, 0), (0, 0), (5, 0)))

    def test_reaches_and_rooms_that_bind(self):
        text = "site up to low reach 2 room 3 flow 9 0\nsite low room 1 flow 0 0\nright a at low wants 1 9"
        self.told(text, ((9, 0), ((1,), (2, 0), (3, 1), (4, 0))), ((0, 0), ((3,), (2, 0), (1, 0), (0, 0))))
        self.told(text, ((4, 0), ((1,), (2, 0), (2, 1), (0, 0))), ((5, 3), ((6,), (2, 0), (3, 0), (2, 0))))

    def test_less_now_is_made_up_for_by_what_is_forecast(self):
        text = "site s room 9 held 3 flow 3 3\nright a at s wants 3 3\nright b at s wants 9 0"
        self.told(text, ((3,), ((3, 3), (0,), (0,), (0,))), ((0,), ((0, 0), (0,), (0,), (0,))))
        self.told(text, ((0,), ((3, 0), (0,), (0,), (0,))), ((4,), ((3, 0), (0,), (1,), (0,))))

    def test_it_carries_out_the_first_month_of_the_operation_of_the_rest(self):
        season = season_of(FOUR)
        basin, rights = parse_basin(FOUR)
        names = [site[0] for site in basin[1]]
        came = [(4, 6, 0, 0), (9, 0, 2, 1), (0, 3, 0, 0), (5, 0, 0, 4)]
        for m, inflows in enumerate(came):
            # The rest, put together by hand.
            rows = [list(site[6][m:]) for site in basin[1]]
            held = [site[5] for site in basin[1]] if m == 0 else season.records()[-1][3]
            for s, amount in enumerate(inflows):
                rows[s][0] = amount
            for k, record in enumerate(season.records()):
                for site, down in zip(basin[1], record[2]):
                    if site[1] is not None and m <= k + site[2] < 4:
                        rows[names.index(site[1])][k + site[2] - m] += down
            rest = (4 - m, tuple(
                site[:5] + (kept, tuple(row)) for site, kept, row in zip(basin[1], held, rows)
            ))
            wants = tuple((name, place, demands[m:]) for name, place, demands in rights)
            plan = operation(rest, wants)
            spilled = tuple(row[0] for row in spills(rest, wants, plan))
            self.assertEqual(season.close(inflows), (*month_of(plan, 0), spilled))

    def test_the_amounts_of_a_rest_may_be_greater_than_those_of_a_basin(self):
        text = "".join(f"site {name} to d in 1 room 99 held 99 flow 99 0\n" for name in "abc")
        text += "site d room 99 flow 0 99\nright r at d wants 0 99\nright s at d wants 0 99\nright t at d wants 0 99\n"
        text += "right u at d wants 0 99"
        season = season_of(text, (99, 99, 99, 99))
        # From three sites 297 arrive in a month that has 99 of its own.
        self.assertEqual(season.records()[0][2:4], ((99, 99, 99, 0), (99, 99, 99, 99)))
        self.assertEqual(season.expected(), ((0, 99),) * 4)
        self.assertEqual(season.close((0, 0, 0, 99))[0], (99, 99, 99, 99))

    def test_beyond_the_limits(self):
        basin = (5, (("upper", "lower", 3, 500, 3000, 3000, (0,) * 5), ("lower", None, 0, None, 900, 0, (500,) * 5)))
        rights = tuple((f"right{k}", "lower", (200,) * 5) for k in range(5))
        season = Season(basin, rights)
        self.assertEqual(season.outlook(), operation(basin, rights))
        for m in range(5):
            season.close((0, 99))
        self.assertEqual(season.month(), 5)
        # What is let down takes three months to arrive.
        self.assertEqual([sum(record[1]) for record in season.records()], [99, 99, 99, 599, 599])
        with self.assertRaises(Ended):
            season.close((0, 0))


class Told(unittest.TestCase):
    def test_at_the_start(self):
        for text in (DALE, FOUR, "site s flow 5", "site s room 9 held 9 flow 0 0 0\nright a at s wants 9 0 3"):
            basin, rights = parse_basin(text)
            season = Season(basin, rights)
            self.assertEqual(state(season), (0, delivered(basin, rights), operation(basin, rights), (), ""))

    def test_behind_each_month(self):
        season = season_of(DALE)
        self.assertEqual(season.expected(), ((3, 4), (2, 0)))
        season.close((12, 2))
        first = ((12, 2), (3, 3), (1, 0), (4, 0), (4, 0))
        # the rest for the forecast: 4 are stored, 1 comes in
        outlook = (((3, 4), (3, 1)), ((1, 4), (0, 0)), ((4, 0), (0, 0)))
        self.assertEqual(state(season), (1, ((3, 4), (3, 1)), outlook, (first,), "close 12 2\n"))
        season.close((0, 1))
        outlook = (((3, 4), (3, 1)), ((1, 3), (0, 0)), ((4, 0), (0, 0)))
        second = ((0, 1), (4, 1), (3, 0), (0, 0), (0, 0))
        self.assertEqual(state(season), (2, ((3, 4), (3, 1)), outlook, (first, second), "close 12 2\nclose 0 1\n"))

    def test_closed_months_as_they_were_the_others_by_the_forecast(self):
        text = "site s flow 5 5 5\nright a at s wants 4 4 4"
        season = season_of(text, (1,))
        self.assertEqual(season.expected(), ((1, 4, 4),))
        season.close((9,))
        self.assertEqual(season.expected(), ((1, 4, 4),))
        self.assertEqual(season.outlook(), (((1, 4, 4),), ((0, 0, 0),), ((0, 0, 0),)))
        season.close((2,))
        self.assertEqual(season.expected(), ((1, 4, 2),))

    def test_travelling_water_is_expected(self):
        text = "site up to low in 2 flow 6 0 0\nsite low flow 0 0 0\nright a at low wants 0 0 9"
        season = season_of(text)
        self.assertEqual(season.expected(), ((0, 0, 6),))
        season.close((4, 0))
        self.assertEqual(season.expected(), ((0, 0, 4),))
        season.close((9, 9))
        self.assertEqual(season.expected(), ((0, 0, 4),))
        self.assertEqual(season.outlook(), (((0, 0, 4),), ((4, 0, 0), (0, 0, 0)), ((0, 0, 0), (0, 0, 0))))
        season.close((0, 1))
        self.assertEqual(season.expected(), ((0, 0, 5),))

    def test_no_rights(self):
        season = season_of("site s room 3 flow 2 2", (9,))
        # No more is stored than what is lacking later, by the forecast.
        self.assertEqual(state(season), (1, (), ((), ((0, 0),), ((1, 3),)), (((9,), (), (0,), (1,), (8,)),), "close 9\n"))

    def test_shape(self):
        season = season_of(FOUR, (1, 2, 3, 4), (0, 0, 0, 0))
        for found in (season.close((4, 3, 2, 1)), season.expected(), season.outlook(), season.records()):
            for _, part in odd.with_parts(found):
                self.assertIsInstance(part, (tuple, int))
        self.assertEqual(len(season.records()), 3)
        self.assertIsInstance(season.month(), int)

    def test_what_was_told_stays_as_it_is(self):
        season = season_of(DALE, (6, 2))
        records, expected, outlook = season.records(), season.expected(), season.outlook()
        season.close((0, 0))
        self.assertEqual((len(records), expected), (1, ((3, 4), (2, 0))))
        self.assertEqual(outlook, operation(*parse_basin(DALE)))

    def test_the_basin_and_the_rights_stay(self):
        basin, rights = parse_basin(FOUR)
        season = Season(basin, rights)
        for m in range(4):
            season.close((m, 9, 0, 1))
        self.assertEqual((basin, rights), parse_basin(FOUR))

    def test_seasons_beside_each_other(self):
        basin, rights = parse_basin(DALE)
        one, other = Season(basin, rights), Season(basin, rights)
        one.close((0, 0))
        self.assertEqual(state(other), state(season_of(DALE)))
        other.close((9, 9))
        one.undo()
        self.assertEqual(state(other), state(season_of(DALE, (9, 9))))


class Refused(unittest.TestCase):
    def refused(self, season, inflows):
        kept = state(season)
        with self.subTest(repr(inflows)):
            with self.assertRaises(BadArgument) as caught:
                season.close(inflows)
            self.assertEqual(caught.exception.reason, "inflows")
            # nothing changes
            self.assertEqual(state(season), kept)

    WRONG = (
        (), (6,), (6, 2, 0), (6, 2, 0, 0), (-1, 2), (6, -1), (100, 2), (6, 100), (12345, 0), (True, 2), (6, False),
        (None, 2), (6, None), ("6", 2), (6, "2"), (6.0, 2), (6, (2,)), ((6, 2),), [6, 2], None, 6, True, "62", "6 2", {6: 2},
        b"\x06\x02", range(6, 8),
    )

    def test_wrong_inflows(self):
        for closed in ((), ((6, 2),), ((0, 0), (3, 3))):
            season = season_of(DALE, *closed)
            for inflows in self.WRONG + odd.ODD_THINGS:
                self.refused(season, inflows)
            for thing in odd.ODD_THINGS:
                self.refused(season, (6, thing))

    def test_for_each_site(self):
        self.refused(season_of("site s flow 5 5"), ())
        self.refused(season_of("site s flow 5 5"), (5, 5))
        self.refused(season_of(FOUR), (1, 2, 3))
        self.refused(season_of(FOUR), (1, 2, 3, 4, 5))

    def test_the_bounds_are_taken(self):
        season = season_of(DALE)
        self.assertEqual(season.close((0, 99))[3], (0, 96))
        self.assertEqual(season.close((99, 0))[0], (4, 2))

    def test_ended(self):
        for text, closed in ((DALE, ((6, 2), (1, 0))), ("site s flow 1", ((1,),)), (FOUR, ((1, 1, 1, 1),) * 4)):
            season = season_of(text, *closed)
            kept = state(season)
            for _ in range(2):
                with self.assertRaises(Ended):
                    season.close(closed[-1])
                self.assertEqual(state(season), kept)

    def test_wrong_inflows_are_told_ahead_of_the_end(self):
        season = season_of(DALE, (6, 2), (1, 0))
        for inflows in self.WRONG:
            self.refused(season, inflows)

    def test_open_again_behind_an_undo(self):
        season = season_of(DALE, (6, 2), (1, 0))
        with self.assertRaises(Ended):
            season.close((1, 0))
        season.undo()
        self.assertEqual(season.close((1, 0))[0], (4, 0))


class Undo(unittest.TestCase):
    def test_nothing(self):
        season = season_of(DALE)
        self.assertIs(season.undo(), False)
        self.assertEqual(state(season), state(season_of(DALE)))
        season.close((6, 2))
        self.assertIs(season.undo(), True)
        self.assertIs(season.undo(), False)
        self.assertIs(season.undo(), False)
        self.assertEqual(season.journal(), "close 6 2\nundo\n")

    def test_back_to_the_start_and_again(self):
        came = [(4, 6, 0, 0), (9, 0, 2, 1), (0, 3, 0, 0), (5, 0, 0, 4)]
        season = season_of(FOUR)
        seen = [state(season)]
        for inflows in came:
            season.close(inflows)
            seen.append(state(season))
        for then in seen[-2::-1]:
            self.assertIs(season.undo(), True)
            self.assertEqual(state(season)[:4], then[:4])
        self.assertIs(season.undo(), False)
        self.assertEqual(season.journal(), seen[-1][4] + "undo\n" * 4)
        for inflows, then in zip(came, seen[1:]):
            season.close(inflows)
            self.assertEqual(state(season)[:4], then[:4])
        self.assertEqual(season.journal(), seen[-1][4] + "undo\n" * 4 + seen[-1][4])

    def test_other_inflows(self):
        season = season_of(DALE, (6, 2), (9, 9))
        season.undo()
        season.undo()
        self.assertEqual(season.close((4, 2)), ((3, 0), (1, 0), (3, 0), (0, 0)))
        self.assertEqual(season.close((0, 0))[0], (3, 0))
        self.assertEqual(state(season)[:4], state(season_of(DALE, (4, 2), (0, 0)))[:4])
        self.assertEqual(season.journal(), "close 6 2\nclose 9 9\nundo\nundo\nclose 4 2\nclose 0 0\n")

    def test_more_often_than_there_are_months(self):
        season = season_of(DALE)
        for _ in range(50):
            season.close((6, 2))
            season.undo()
        self.assertEqual(season.journal(), "close 6 2\nundo\n" * 50)
        self.assertEqual(season.close((6, 2)), ((3, 2), (1, 0), (3, 0), (0, 0)))


class Promised(unittest.TestCase):
    def rivers(self):
        luck = random.Random(205)
        return oracle.middle_rivers(201, 40) + [oracle.random_basin(luck, luck.randint(1, 4), luck.randint(1, 4), 30)
                                                for _ in range(60)]

    def test_as_forecast(self):
        for basin, rights in self.rivers():
            with self.subTest((basin, rights)):
                season = Season(basin, rights)
                told, plan = season.expected(), season.outlook()
                self.assertEqual(told, oracle.rows_of(basin, rights, greatest(basin, rights)))
                for m, inflows in enumerate(forecast_of(basin)):
                    self.assertEqual(season.close(inflows)[:3], month_of(plan, m))
                    self.assertEqual((season.expected(), season.outlook()), (told, plan))
                self.assertEqual(tuple(zip(*[record[4] for record in season.records()])), spills(basin, rights, plan))

    def test_closed_months_are_a_right_plan_of_the_basin_that_had_these_inflows(self):
        luck = random.Random(202)
        for basin, rights in self.rivers():
            season = Season(basin, rights)
            for forecast in forecast_of(basin):
                season.close(luck.choice((
                    forecast, tuple(luck.randint(0, 5) for _ in forecast), (0,) * len(forecast),
                    tuple(amount + 2 for amount in forecast), tuple(amount // 2 for amount in forecast),
                )))
                # closed months and the outlook together, too
                had = as_it_came(basin, season.records())
                plan = season.outlook()
                self.assertIsNone(plan_fault(had, rights, plan))
                self.assertEqual([month_of(plan, m) for m in range(season.month())], start_of(season.records()))
                for m, record in enumerate(season.records()):
                    self.assertEqual(record[4], tuple(row[m] for row in spills(had, rights, plan)))
                if season.month() == basin[0]:
                    got, most = 0, 0
                    for row, better in zip(plan[0], delivered(had, rights)):
                        got, most = got + sum(row), most + sum(better)
                        self.assertLessEqual(got, most)

    def test_the_first_of_all_right_plans_that_begin_so(self):
        luck = random.Random(203)
        closed = behind = 0
        for basin, rights, _ in oracle.small_rivers(204, 60, 2, 1500):
            season = Season(basin, rights)
            for forecast in forecast_of(basin):
                start = start_of(season.records())
                inflows = luck.choice((forecast, tuple(luck.randint(0, 2) for _ in forecast), (0,) * len(forecast),
                                       tuple(amount + 1 for amount in forecast)))
                table = list(map(list, zip(*[record[0] for record in season.records()]))) or [[] for _ in inflows]
                table = [row + [now] + list(site[6][len(row) + 1:]) for row, now, site in zip(table, inflows, basin[1])]
                had = oracle.with_inflows(basin, table)
                plans = plans_of(had, rights)
                if plans is None:
                    break
                with self.subTest((basin, rights, season.journal(), inflows)):
                    plan = first_that_goes_on(had, rights, plans, start)
                    m = season.month()
                    found = season.close(inflows)
                    self.assertEqual(found[:3], month_of(plan, m))
                    wasted = oracle.waste_by_cells(had, rights, plan)
                    self.assertEqual(found[3], tuple(wasted[s, m] for s in range(len(inflows))))
                    self.assertEqual(season.outlook(), plan)
                    self.assertEqual(season.expected(), plan[0])
                closed += 1
                behind += m > 0
        self.assertGreater(closed, 120)
        self.assertGreater(behind, 60)


if __name__ == "__main__":
    unittest.main()
