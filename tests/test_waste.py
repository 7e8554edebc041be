"""w1 to w3: the waste of plans, what can leave a region, the surplus, the least waste, the overfull region."""

import random
import unittest

import odd
import oracle
from heldwater.basintext import parse_basin
from heldwater.errors import BadPlan
from heldwater.flows import greatest
from heldwater.operations import operation
from heldwater.plans import plan_fault
from heldwater.regions import is_region
from heldwater.waste import least_waste, leaving, overfull, surplus, waste_of

DALE = "site dale to mouth reach 1 room 2 flow 9 0\nsite mouth flow 0 0\nright mill at mouth wants 3 4"
# From up water travels a month, from side two; mid has no limit.
FOUR = (
    "site up to mid in 1 reach 9 room 6 held 2 flow 7 3 0 2\nsite side to low in 2 reach 4 room 3 flow 4 4 1 0\n"
    "site mid to low room 2 flow 1 0 0 1\nsite low room 5 flow 0 1 0 0\n"
    "right a at low wants 2 3 4 5\nright b at mid wants 1 4 1 4\nright c at up wants 3 0 3 3"
)


class Waste(unittest.TestCase):
    def told(self, text, plan, amount):
        with self.subTest((text, plan)):
            basin, rights = parse_basin(text)
            self.assertIsNone(plan_fault(basin, rights, plan))
            self.assertEqual(waste_of(basin, rights, plan), amount)

    def test_spills(self):
        self.told("site s flow 5", ((), ((0,),), ((0,),)), 5)
        self.told("site s room 5 flow 5", ((), ((0,),), ((5,),)), 0)
        self.told("site s room 5 held 4 flow 5 1\nright a at s wants 2 0", (((1, 0),), ((0, 0),), ((5, 3),)), 6)
        self.told(DALE, (((0, 0),), ((0, 0), (0, 0)), ((0, 0), (0, 0))), 9)

    def test_let_down_too_late(self):
        for travel, wasted in ((1, 3), (2, 5)):
            text = f"site up to low in {travel} flow 2 2 3\nsite low room 9 flow 0 0 0"
            storages = {1: (0, 2, 4), 2: (0, 0, 2)}[travel]
            self.told(text, ((), ((2, 2, 3), (0, 0, 0)), ((0, 0, 0), storages)), wasted)
            # and what arrives and is spilled there
            self.told(text, ((), ((2, 2, 3), (0, 0, 0)), ((0, 0, 0), (0, 0, 0))), 7)

    def test_let_down_in_time(self):
        text = "site up to low flow 2 3\nsite low room 9 flow 0 0"
        self.told(text, ((), ((2, 3), (0, 0)), ((0, 0), (2, 5))), 0)
        text = "site up to low in 1 flow 2 3\nsite low room 9 flow 0 0"
        self.told(text, ((), ((2, 0), (0, 0)), ((0, 0), (0, 2))), 3)

    def test_of_an_operation(self):
        basin, rights = parse_basin(DALE)
        self.assertEqual(waste_of(basin, rights, operation(basin, rights)), 6)
        basin, rights = parse_basin(FOUR)
        self.assertEqual(waste_of(basin, rights, operation(basin, rights)), least_waste(basin, rights))

    def test_refused(self):
        basin, rights = parse_basin(DALE)
        for plan in (
            (((4, 0),), ((1, 0), (0, 0)), ((0, 0), (0, 0))), (((0, 0),), ((2, 0), (0, 0)), ((0, 0), (0, 0))),
            (((0, 0),), ((0, 0), (1, 0)), ((0, 0), (0, 0))), (((0, 0),), ((0, 0), (0, 0)), ((3, 0), (0, 0))),
            (((1, 0),), ((0, 0), (0, 0)), ((0, 0), (0, 0))), (((0, 0),), ((1, 1), (0, 0)), ((0, 0), (0, 0))),
        ):
            with self.subTest(plan):
                with self.assertRaises(BadPlan) as caught:
                    waste_of(basin, rights, plan)
                self.assertEqual(caught.exception.reason, "not right")

    def test_waste_and_what_rights_get_and_what_is_stored_at_the_end_are_all_water(self):
        luck = random.Random(301)
        late = 0
        plans = [(basin, rights, plan) for basin, rights, found in oracle.small_rivers(302, 30) for plan in found[::7]]
        for basin, rights in oracle.middle_rivers(303, 40):
            plans += [(basin, rights, oracle.random_plan(luck, basin, rights)) for _ in range(12)]
            plans.append((basin, rights, operation(basin, rights)))
        for basin, rights, plan in plans:
            wasted = waste_of(basin, rights, plan)
            self.assertEqual(wasted, sum(oracle.waste_by_cells(basin, rights, plan).values()))
            given = sum(sum(row) for row in plan[0]) + sum(row[-1] for row in plan[2])
            self.assertEqual(wasted + given, oracle.all_water(basin))
            late += any(row[m] and m + site[2] >= basin[0] for row, site in zip(plan[1], basin[1]) for m in range(basin[0]))
        self.assertGreater(late, 100)


class Leaving(unittest.TestCase):
    def told(self, text, region, amount):
        basin, rights = parse_basin(text)
        with self.subTest((text, region)):
            self.assertTrue(is_region(basin, region))
            self.assertEqual(leaving(basin, region), amount)

    def test_one_site(self):
        text = "site s room 7 flow 5 5 5"
        self.told(text, ((0, 0),), 7)
        self.told(text, ((0, 1),), 7)
        # of the last month nothing leaves
        self.told(text, ((0, 2),), 0)
        self.told(text, ((0, 0), (0, 2)), 7)
        self.told(text, ((0, 0), (0, 1)), 7)
        self.told(text, ((0, 1), (0, 2)), 0)
        self.told(text, ((0, 0), (0, 1), (0, 2)), 0)

    def test_what_is_let_down(self):
        text = "site up to low reach 3 room 7 flow 5 5\nsite low room 4 flow 0 0"
        self.told(text, ((0, 0),), 10)
        self.told(text, ((0, 1),), 3)
        self.told(text, ((1, 0),), 4)
        self.told(text, ((1, 1),), 0)
        self.told(text, ((0, 0), (1, 0)), 11)
        self.told(text, ((0, 0), (0, 1)), 6)
        self.told(text, ((0, 1), (1, 1)), 0)
        self.told(text, ((1, 0), (0, 1)), 7)
        self.told(text, ((0, 0), (1, 0), (0, 1)), 7)
        self.told(text, ((0, 0), (1, 0), (0, 1), (1, 1)), 0)

    def test_travel(self):
        for travel in (0, 1, 2):
            text = f"site up to low in {travel} reach 3 flow 5 5 5\nsite low flow 0 0 0".replace(" in 0", "")
            for m in range(3):
                in_time = m + travel <= 2
                self.told(text, ((0, m),), 3 if in_time else 0)
                for to in range(3):
                    region = tuple(sorted(((0, m), (1, to)), key=lambda cell: (cell[1], cell[0])))
                    self.told(text, region, 3 if in_time and to != m + travel else 0)

    def test_runs_off(self):
        text = "site up to low in 1 room 4 flow 5 5\nsite low flow 0 0"
        self.told(text, ((0, 0),), None)
        self.told(text, ((0, 0), (1, 0)), None)
        self.told(text, ((0, 0), (1, 1)), 4)
        # what would arrive behind the last month does not leave, limit or none
        self.told(text, ((0, 1),), 0)
        self.told(text, ((0, 0), (0, 1)), None)
        self.told(text, ((0, 0), (0, 1), (1, 1)), 0)

    def test_one_that_runs_off_beside_one_that_does_not(self):
        text = "site a to c reach 2 flow 1\nsite b to c flow 1\nsite c flow 1"
        self.told(text, ((0, 0),), 2)
        self.told(text, ((1, 0),), None)
        self.told(text, ((0, 0), (1, 0)), None)
        self.told(text, ((0, 0), (1, 0), (2, 0)), 0)

    def test_the_outlet(self):
        text = "site up to low reach 0 flow 1 1\nsite low room 9 flow 5 5"
        self.told(text, ((1, 0),), 9)
        self.told(text, ((1, 1),), 0)
        self.told(text, ((1, 0), (1, 1)), 0)
        self.told(text, ((0, 0),), 0)


class Surplus(unittest.TestCase):
    def told(self, text, region, amount):
        with self.subTest((text, region)):
            self.assertEqual(surplus(*parse_basin(text), region), amount)

    def test_by_hand(self):
        self.told(DALE, ((0, 0),), 6)
        self.told(DALE, ((0, 0), (0, 1)), 5)
        # the room of the dale is claimed in the last month, the mill's demands at the mouth
        self.told(DALE, ((0, 1),), -3)
        self.told(DALE, ((1, 0),), -3)
        self.told(DALE, ((1, 1),), -4)
        self.told(DALE, ((0, 0), (1, 0)), 4)
        self.told(DALE, ((0, 0), (1, 0), (0, 1), (1, 1)), 0)

    def test_held_water_in_month_0(self):
        text = "site s room 5 held 5 flow 1 1\nright a at s wants 2 0"
        self.told(text, ((0, 0),), -1)
        self.told(text, ((0, 1),), -4)
        self.told(text, ((0, 0), (0, 1)), 0)

    def test_runs_off(self):
        self.told("site up to low flow 9\nsite low flow 0", ((0, 0),), None)
        self.told("site up to low flow 9\nsite low flow 0", ((0, 0), (1, 0)), 9)
        self.told("site up to low in 1 flow 9\nsite low flow 0", ((0, 0),), 9)

    def test_all_regions(self):
        signs = set()
        for basin, rights, _ in oracle.small_rivers(304, 60, 2, 6000):
            for region in oracle.all_regions(basin):
                with self.subTest((basin, rights, region)):
                    amount = oracle.surplus_of(basin, rights, region)
                    self.assertEqual(surplus(basin, rights, region), amount)
                    out = leaving(basin, region)
                    if amount is None:
                        self.assertIsNone(out)
                        continue
                    water = sum(basin[1][s][6][m] + (0 if m else basin[1][s][5]) for s, m in region)
                    claimed = sum(size for _, cell, size in oracle.all_claims(basin, rights) if cell in region)
                    self.assertEqual(amount, water - claimed - out)
                    signs.add((amount > 0) - (amount < 0))
        self.assertEqual(signs, {-1, 0, 1})

    def test_the_waste_of_its_cells_is_not_less(self):
        luck = random.Random(305)
        met = 0
        for basin, rights, plans in oracle.small_rivers(306, 30, 20, 3000):
            regions = [(region, surplus(basin, rights, region)) for region in oracle.all_regions(basin)]
            regions = [(region, amount) for region, amount in regions if amount is not None and amount > 0]
            for plan in luck.sample(plans, min(40, len(plans))):
                wasted = oracle.waste_by_cells(basin, rights, plan)
                for region, amount in regions:
                    found = sum(wasted[cell] for cell in region)
                    self.assertGreaterEqual(found, amount)
                    met += found == amount
        self.assertGreater(met, 50)


class LeastWaste(unittest.TestCase):
    def told(self, text, amount, region):
        with self.subTest(text):
            basin, rights = parse_basin(text)
            self.assertEqual((least_waste(basin, rights), overfull(basin, rights)), (amount, region))

    def test_none(self):
        self.told("site s flow 0", 0, None)
        self.told("site s room 5 flow 5", 0, None)
        self.told("site s flow 5\nright a at s wants 5", 0, None)
        self.told("site s flow 5 0\nright a at s wants 9 9", 0, None)
        self.told("site up to low flow 5 0\nsite low flow 0 2\nright a at low wants 5 2", 0, None)

    def test_all(self):
        self.told("site s flow 5", 5, ((0, 0),))
        self.told("site s flow 5 0 3", 8, ((0, 0), (0, 2)))
        self.told("site s room 5 held 5 flow 5 0 3", 8, ((0, 0), (0, 1), (0, 2)))

    def test_more_than_rights_and_rooms_take(self):
        self.told("site s room 2 flow 9 0\nright a at s wants 3 9", 4, ((0, 0),))
        self.told("site s room 2 flow 9 0\nright a at s wants 3 1", 4, ((0, 0),))
        self.told("site s room 2 flow 5 2\nright a at s wants 3 1", 1, ((0, 0), (0, 1)))
        self.told("site s room 2 flow 6 2\nright a at s wants 3 1", 2, ((0, 0), (0, 1)))

    def test_a_reach_that_binds(self):
        self.told(DALE, 6, ((0, 0),))
        self.told(DALE.replace("reach 1 ", ""), 4, ((0, 0), (1, 0)))
        self.told("site a to b reach 2 flow 9\nsite b flow 0\nright r at b wants 9", 7, ((0, 0),))

    def test_water_that_comes_too_late_to_arrive(self):
        text = "site up to low in 1 flow 0 5\nsite low flow 0 0\nright a at low wants 9 9"
        self.told(text, 5, ((0, 1),))
        self.told(text.replace("flow 0 5", "room 9 flow 0 5"), 0, None)
        self.told(text.replace("in 1 flow 0 5", "in 2 flow 4 5"), 9, ((0, 0), (0, 1)))

    def test_the_outlet_lets_down_nothing(self):
        self.told("site up to low flow 3\nsite low flow 4\nright a at up wants 2", 5, ((0, 0), (1, 0)))

    def test_of_all_right_plans(self):
        amounts, regions = set(), set()
        for basin, rights, plans in oracle.small_rivers(307, 80):
            with self.subTest((basin, rights)):
                amount = least_waste(basin, rights)
                self.assertEqual(amount, min(sum(oracle.waste_by_cells(basin, rights, plan).values()) for plan in plans))
                self.assertEqual(amount, oracle.all_water(basin) - sum(oracle.greatest_by_regions(basin, rights)))
                self.by_regions(basin, rights, amount)
                amounts.add(amount)
                regions.add(overfull(basin, rights))
        self.assertGreater(len(amounts), 4)
        self.assertGreater(len(regions), 20)
        self.assertIn(None, regions)

    def by_regions(self, basin, rights, amount):
        found = [(region, oracle.surplus_of(basin, rights, region)) for region in oracle.all_regions(basin)]
        most = max([told for _, told in found if told is not None] + [0])
        self.assertEqual(amount, most)
        region = overfull(basin, rights)
        if amount == 0:
            self.assertIsNone(region)
            return
        self.assertTrue(is_region(basin, region))
        have = [other for other, told in found if told == amount]
        self.assertIn(region, have)
        for other in have:
            self.assertLessEqual(set(region), set(other))

    def test_more_water(self):
        for basin, rights in oracle.middle_rivers(308, 60):
            with self.subTest((basin, rights)):
                amount = least_waste(basin, rights)
                self.assertEqual(amount, oracle.all_water(basin) - sum(oracle.greatest_by_regions(basin, rights)))
                self.assertEqual(amount, waste_of(basin, rights, operation(basin, rights)))
                self.by_regions(basin, rights, amount)

    def test_it_does_not_hang_on_the_order_of_the_rights(self):
        for basin, rights in oracle.middle_rivers(309, 30):
            self.assertEqual(least_waste(basin, rights), least_waste(basin, rights[::-1]))
            self.assertEqual(overfull(basin, rights), overfull(basin, rights[::-1]))

    def test_beyond_the_limits(self):
        basin = (5, (("upper", "lower", 3, 500, 3000, 3000, (0,) * 5), ("lower", None, 0, None, 900, 0, (500,) * 5)))
        rights = tuple((f"right{k}", "lower", (100,) * 5) for k in range(6))
        amount = least_waste(basin, rights)
        self.assertEqual(amount, 5500 - sum(greatest(basin, rights)))
        self.by_regions(basin, rights, amount)

    def test_shape(self):
        for basin, rights in oracle.middle_rivers(310, 10):
            for _, part in odd.with_parts((overfull(basin, rights), least_waste(basin, rights))):
                self.assertTrue(part is None or isinstance(part, tuple) or type(part) is int)


if __name__ == "__main__":
    unittest.main()
