"""t1, t2: basins that are run by targets, and the best even target."""

import itertools
import random
import unittest

import odd
import oracle
from heldwater.basintext import parse_basin
from heldwater.flows import greatest
from heldwater.operations import operation
from heldwater.plans import gives, plan_fault, spills
from heldwater.rules import best_even_target, run_by

DALE = (
    "site dale to mouth room 4 flow 6 1\nsite mouth flow 2 0\n"
    "right mill at mouth wants 3 4\nright farm at dale wants 3 2"
)


def run_by_units(basin, rights, targets):
    """What t1 tells, one unit of water after the other: each goes to the first use that still takes one."""
    months, sites = basin
    waiting = {(s, m): sites[s][6][m] + (0 if m else sites[s][5]) for s, m in oracle.cells(basin)}
    given = [[0] * months for _ in rights]
    down, kept = ([[0] * months for _ in sites] for _ in "ab")
    for s, m in oracle.cells(basin):
        name, lower, travel, reach, room, _, _ = sites[s]
        in_time = lower is not None and m + travel < months
        for _ in range(waiting[s, m]):
            lacking = [r for r, right in enumerate(rights) if right[1] == name and given[r][m] < right[2][m]]
            if lacking:
                given[lacking[0]][m] += 1
            elif kept[s][m] < targets[s][m] and kept[s][m] < room:
                kept[s][m] += 1
            elif in_time and (reach is None or down[s][m] < reach):
                down[s][m] += 1
            elif kept[s][m] < room:
                kept[s][m] += 1
        if m + 1 < months:
            waiting[s, m + 1] += kept[s][m]
        if in_time:
            waiting[oracle.number_of(basin, lower), m + travel] += down[s][m]
    return tuple(tuple(tuple(row) for row in rows) for rows in (given, down, kept))


def some_targets(luck, basin):
    """Targets of many kinds: of 0, of the room, above the room, unlike month by month."""
    rows = []
    for site in basin[1]:
        room = site[4]
        rows.append(tuple(luck.choice((0, 0, room, room + 1, 99, luck.randint(0, room), luck.randint(0, 3)))
                          for _ in range(basin[0])))
    return tuple(rows)


def rivers(seed, many):
    luck = random.Random(seed)
    found = oracle.middle_rivers(seed + 1, many)
    found += [oracle.random_basin(luck, luck.randint(1, 4), luck.randint(1, 4), 30) for _ in range(many)]
    return [(basin, rights, some_targets(luck, basin)) for basin, rights in found]


class RunBy(unittest.TestCase):
    def told(self, text, targets, plan):
        with self.subTest((text, targets)):
            basin, rights = parse_basin(text)
            self.assertEqual(run_by(basin, rights, targets), plan)

    def test_by_hand(self):
        self.told(DALE, ((0, 0), (0, 0)), (((3, 0), (3, 1)), ((3, 0), (0, 0)), ((0, 0), (0, 0))))
        self.told(DALE, ((2, 2), (0, 0)), (((3, 0), (3, 2)), ((1, 0), (0, 0)), ((2, 1), (0, 0))))
        self.told(DALE, ((1, 0), (0, 0)), (((3, 0), (3, 2)), ((2, 0), (0, 0)), ((1, 0), (0, 0))))
        # no target holds back what rights at the site itself demand
        self.told(DALE, ((4, 4), (0, 0)), (((2, 0), (3, 2)), ((0, 0), (0, 0)), ((3, 2), (0, 0))))

    def test_targets_of_the_room_and_above_it(self):
        text = "site up to low room 4 flow 9 0\nsite low flow 0 0\nright a at low wants 9 9"
        self.told(text, ((0, 0), (0, 0)), (((9, 0),), ((9, 0), (0, 0)), ((0, 0), (0, 0))))
        for target in (4, 5, 99, 1000):
            self.told(text, ((target, 0), (0, 0)), (((5, 4),), ((5, 4), (0, 0)), ((4, 0), (0, 0))))
            self.told(text, ((target, target), (0, 0)), (((5, 0),), ((5, 0), (0, 0)), ((4, 4), (0, 0))))
        self.told(text, ((3, 1), (0, 0)), (((6, 2),), ((6, 2), (0, 0)), ((3, 1), (0, 0))))

    def test_unlike_month_by_month(self):
        text = "site up to low room 9 held 2 flow 3 3 3 3\nsite low flow 0 0 0 0\nright a at low wants 9 9 9 9"
        self.told(text, ((5, 1, 9, 0), (0,) * 4), (((0, 7, 0, 7),), ((0, 7, 0, 7), (0,) * 4), ((5, 1, 4, 0), (0,) * 4)))

    def test_rights_at_one_site_in_order(self):
        text = "site s room 9 flow 7 9\nright a at s wants 4 1\nright b at s wants 2 0\nright c at s wants 5 2"
        self.told(text, ((9, 9),), (((4, 1), (2, 0), (1, 2)), ((0, 0),), ((0, 6),)))
        text = text.replace("flow 7", "flow 3")
        self.told(text, ((9, 9),), (((3, 1), (0, 0), (0, 2)), ((0, 0),), ((0, 6),)))

    def test_older_rights_further_down_have_no_claim(self):
        text = "site up to low flow 5\nsite low flow 0\nright old at low wants 5\nright new at up wants 4"
        self.told(text, ((0,), (0,)), (((1,), (4,)), ((1,), (0,)), ((0,), (0,))))
        basin, rights = parse_basin(text)
        self.assertEqual(operation(basin, rights)[0], ((5,), (0,)))

    def test_a_reach_that_binds(self):
        # beyond the reach what is left is stored, up to the room; then it is spilled
        text = "site up to low reach 2 room 4 flow {} 0\nsite low flow 0 0\nright a at low wants 9 9"
        for flow, first in ((1, (1, 0)), (2, (2, 0)), (3, (2, 1)), (6, (2, 4)), (9, (2, 4))):
            basin, rights = parse_basin(text.format(flow))
            plan = run_by(basin, rights, ((0, 0), (0, 0)))
            self.assertEqual((plan[1][0][0], plan[2][0][0]), first)
            self.assertEqual(spills(basin, rights, plan)[0][0], max(0, flow - 6))
        # with a target: stored, let down, stored
        for flow, first in ((1, (0, 1)), (3, (1, 2)), (4, (2, 2)), (5, (2, 3)), (6, (2, 4)), (7, (2, 4))):
            basin, rights = parse_basin(text.format(flow))
            plan = run_by(basin, rights, ((2, 0), (0, 0)))
            self.assertEqual((plan[1][0][0], plan[2][0][0]), first)

    def test_a_reach_of_0(self):
        self.told("site up to low reach 0 room 4 flow 9\nsite low flow 1\nright a at low wants 9", ((0,), (0,)),
                  (((1,),), ((0,), (0,)), ((4,), (0,))))

    def test_the_outlet_stores_up_to_the_room_whatever_the_target(self):
        for target in (0, 1, 3, 99):
            self.told("site s room 3 flow 5 0", ((target, target),), ((), ((0, 0),), ((3, 3),)))
            self.told("site s room 3 flow 2 0", ((target, target),), ((), ((0, 0),), ((2, 2),)))
            self.told("site s flow 5", ((target,),), ((), ((0,),), ((0,),)))

    def test_travel(self):
        text = "site up to low in {} room 9 flow 3 3 3\nsite low flow 0 0 0\nright a at low wants 9 9 9"
        nothing = (0, 0, 0)
        self.told(text.replace(" in {}", ""), (nothing,) * 2, (((3, 3, 3),), ((3, 3, 3), nothing), (nothing,) * 2))
        # what would arrive behind the last month is not let down, but stored
        self.told(text.format(1), (nothing,) * 2, (((0, 3, 3),), ((3, 3, 0), nothing), ((0, 0, 3), nothing)))
        self.told(text.format(2), (nothing,) * 2, (((0, 0, 3),), ((3, 0, 0), nothing), ((0, 3, 6), nothing)))
        self.told(text.format(2).replace("room 9 ", ""), (nothing,) * 2, (((0, 0, 3),), ((3, 0, 0), nothing), (nothing,) * 2))

    def test_one_month(self):
        self.told("site up to low in 1 room 2 flow 5\nsite low flow 1\nright a at low wants 3", ((0,), (0,)),
                  (((1,),), ((0,), (0,)), ((2,), (0,))))

    def test_held_water(self):
        self.told("site up to low room 4 held 3 flow 1 0\nsite low flow 0 0\nright a at low wants 9 9", ((2, 0), (0, 0)),
                  (((2, 2),), ((2, 2), (0, 0)), ((2, 0), (0, 0))))

    def test_without_looking_ahead(self):
        text = "site up to low room 9 flow 4 {}\nsite low flow 0 {}\nright a at low wants 1 {}"
        seen = set()
        for later in ("0", "5", "99"):
            basin, rights = parse_basin(text.format(later, later, later))
            plan = run_by(basin, rights, ((1, 3), (0, 0)))
            seen.add(tuple(row[0] for rows in plan for row in rows))
        self.assertEqual(len(seen), 1)

    def test_unit_by_unit(self):
        for basin, rights, targets in rivers(601, 150):
            with self.subTest((basin, rights, targets)):
                self.assertEqual(run_by(basin, rights, targets), run_by_units(basin, rights, targets))

    def test_what_results_is_a_right_plan(self):
        less = 0
        for basin, rights, targets in rivers(603, 120):
            with self.subTest((basin, rights, targets)):
                plan = run_by(basin, rights, targets)
                self.assertIsNone(plan_fault(basin, rights, plan))
                best = greatest(basin, rights)
                for k in range(len(best) + 1):
                    self.assertLessEqual(sum(gives(basin, rights, plan)[:k]), sum(best[:k]))
                less += sum(map(sum, plan[0])) < sum(best[:len(rights) * basin[0]])
        self.assertGreater(less, 20)

    def test_one_of_all_right_plans(self):
        luck = random.Random(605)
        for basin, rights, plans in oracle.small_rivers(606, 25, 20, 3000):
            for _ in range(4):
                self.assertIn(run_by(basin, rights, some_targets(luck, basin)), plans)

    def test_arguments_stay_and_the_shape(self):
        basin, rights = parse_basin(DALE)
        targets = ((1, 1), (0, 0))
        for _, part in odd.with_parts(run_by(basin, rights, targets)):
            self.assertIsInstance(part, (tuple, int))
        best_even_target(basin, rights, targets, "dale")
        self.assertEqual((basin, rights, targets), (*parse_basin(DALE), ((1, 1), (0, 0))))

    def test_beyond_the_limits(self):
        basin = (5, (("upper", "lower", 3, 500, 3000, 3000, (0,) * 5), ("lower", None, 0, None, 900, 0, (500,) * 5)))
        rights = tuple((f"right{k}", "lower", (200,) * 5) for k in range(5))
        targets = ((2600, 100, 0, 0, 0), (0,) * 5)
        plan = run_by(basin, rights, targets)
        self.assertEqual(plan, run_by_units(basin, rights, targets))
        self.assertEqual(plan[1], ((400, 500, 0, 0, 0), (0,) * 5))
        # all together they get most if up lets down 1000 in time, as it does with nothing to keep back
        self.assertEqual(best_even_target(basin, rights, targets, "upper"), 0)


class BestEvenTarget(unittest.TestCase):
    def told(self, text, targets, site, target):
        with self.subTest((text, targets, site)):
            basin, rights = parse_basin(text)
            self.assertEqual(best_even_target(basin, rights, targets, site), target)

    def test_by_hand(self):
        self.told(DALE, ((0, 0), (0, 0)), "dale", 1)
        # what stands for the site itself is not looked at
        for row in ((0, 4), (4, 0), (9, 9)):
            self.told(DALE, (row, (0, 0)), "dale", 1)
        self.told(DALE, ((0, 0), (3, 3)), "mouth", 0)

    def test_the_least_of_several(self):
        text = "site up to low room 9 flow 9 0\nsite low flow 0 0\nright a at low wants {}"
        self.told(text.format("0 0"), ((5, 5), (0, 0)), "up", 0)
        self.told(text.format("9 0"), ((5, 5), (0, 0)), "up", 0)
        # what the target keeps in month 0 it keeps in month 1, too
        self.told(text.format("0 9"), ((5, 5), (0, 0)), "up", 0)
        text = text.replace("room 9", "reach 2 room 9")
        self.told(text.format("9 9"), ((5, 5), (0, 0)), "up", 0)

    def test_up_to_the_room(self):
        text = "site up to low room {} flow 9 0\nsite low flow 0 0\nright a at low wants 1 0\nright b at up wants 0 9"
        for room, target in ((1, 1), (3, 3), (7, 7), (8, 8), (9, 8), (20, 8)):
            self.told(text.format(room), ((0, 0), (0, 0)), "up", target)

    def test_a_room_of_0(self):
        self.told(DALE.replace("room 4 ", ""), ((0, 0), (0, 0)), "dale", 0)
        self.told(DALE, ((0, 0), (0, 0)), "mouth", 0)

    def test_a_room_of_99_and_above(self):
        text = "site up to low room 99 held 99 flow 0 0\nsite low flow 0 0\nright b at up wants 0 99"
        self.told(text, ((0, 0), (0, 0)), "up", 99)
        basin, rights = parse_basin(text)
        basin = (2, (basin[1][0][:4] + (150, 150, (0, 0)), basin[1][1]))
        self.assertEqual(best_even_target(basin, (("b", "up", (0, 120)),), ((0, 0), (0, 0)), "up"), 120)

    def test_no_rights(self):
        self.told("site up to low room 9 flow 9 0\nsite low flow 0 0", ((5, 5), (0, 0)), "up", 0)

    def test_the_targets_of_other_sites_count(self):
        text = (
            "site top to mid room 9 flow 6 0\nsite mid to low room 9 flow 0 0\nsite low flow 0 0\n"
            "right a at mid wants 0 4\nright b at low wants 2 0"
        )
        for row, target in (((0, 0), 4), ((2, 0), 2), ((6, 0), 0), ((6, 6), 0)):
            self.told(text, (row, (0, 0), (0, 0)), "mid", target)
        text = (
            "site up to low room 9 flow 6 0\nsite low to out room 9 flow 0 0\nsite out flow 0 0\n"
            "right a at up wants 0 4\nright b at low wants 0 6"
        )
        for own in ((0, 0), (6, 0), (9, 9)):
            self.told(text, (own, (6, 0), (0, 0)), "up", 0)
            self.told(text, (own, (0, 0), (6, 0)), "up", 4)

    def test_trying_each_one(self):
        found = set()
        for basin, rights, targets in rivers(607, 80):
            for s, (name, _, _, _, room, _, _) in enumerate(basin[1]):
                with self.subTest((basin, rights, targets, name)):
                    totals = []
                    for target in range(room + 1):
                        rows = list(targets)
                        rows[s] = (target,) * basin[0]
                        totals.append(sum(itertools.chain(*run_by_units(basin, rights, tuple(rows))[0])))
                    best = [target for target, total in enumerate(totals) if total == max(totals)][0]
                    self.assertEqual(best_even_target(basin, rights, targets, name), best)
                    found.add(best)
        self.assertGreaterEqual(len(found), 3)


if __name__ == "__main__":
    unittest.main()
