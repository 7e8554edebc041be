"""c6, r1 to r3: regions, what they have and what can enter them, and why a claim is short."""

import unittest

import odd
import oracle
from heldwater.basins import claim_cell, claims
from heldwater.basintext import parse_basin
from heldwater.flows import greatest
from heldwater.regions import entering, is_exhausted, is_region, reason, supply

# Three sites that lead to one, with travels and reaches, in 3 months. All numbers unlike.
MEET = (3, (
    ("a", "d", 0, 4, 21, 5, (100, 200, 300)),
    ("b", "d", 1, None, 22, 6, (101, 201, 301)),
    ("c", "d", 2, 8, 23, 7, (102, 202, 302)),
    ("d", None, 0, None, 24, 9, (103, 203, 303)),
))

DALE = (
    "site dale to mouth room 4 flow 6 1\nsite mouth flow 2 0\n"
    "right mill at mouth wants 3 4\nright farm at dale wants 3 2"
)


class Supply(unittest.TestCase):
    def test_held_in_month_0_alone(self):
        self.assertEqual(supply(MEET, ((0, 0),)), 105)
        self.assertEqual(supply(MEET, ((0, 1),)), 200)
        self.assertEqual(supply(MEET, ((3, 0),)), 112)
        self.assertEqual(supply(MEET, ((3, 2),)), 303)

    def test_sum_of_cells(self):
        self.assertEqual(supply(MEET, ((1, 0), (2, 0), (0, 2))), 107 + 109 + 300)
        self.assertEqual(supply(MEET, ((0, 0), (3, 0), (2, 1), (3, 2))), 105 + 112 + 202 + 303)

    def test_of_all_cells_is_all_water(self):
        all_water = sum(site[5] + sum(site[6]) for site in MEET[1])
        self.assertEqual(supply(MEET, tuple(oracle.cells(MEET))), all_water)


class Entering(unittest.TestCase):
    def told(self, region, amount):
        with self.subTest(region):
            self.assertEqual(entering(MEET, region), amount)

    def test_rooms(self):
        self.told(((0, 0),), 0)
        self.told(((0, 1),), 21)
        self.told(((0, 2),), 21)
        self.told(((0, 0), (0, 1)), 0)
        self.told(((0, 0), (0, 2)), 21)
        self.told(((1, 1), (2, 2)), 22 + 23)

    def test_reaches(self):
        self.told(((3, 0),), 4)
        self.told(((0, 0), (3, 0)), 0)
        self.told(((1, 0), (3, 0)), 4)

    def test_open(self):
        self.told(((3, 1),), None)
        self.told(((3, 2),), None)
        self.told(((1, 1), (3, 1)), None)
        self.told(((0, 1), (2, 1), (3, 1)), None)

    def test_travel(self):
        self.told(((1, 0), (3, 1)), 4 + 24)
        self.told(((1, 0), (0, 1), (3, 1)), 21 + 24)
        self.told(((1, 1), (3, 2)), 22 + 4 + 8 + 24)
        self.told(((2, 0), (1, 1), (3, 2)), 22 + 4 + 24)
        self.told(((2, 0), (1, 1), (3, 1), (0, 2), (3, 2)), None)
        self.told(((1, 0), (2, 0), (1, 1), (3, 1), (0, 2), (3, 2)), 4 + 24 + 21)

    def test_the_outlet_enters_nothing(self):
        self.assertEqual(entering((1, (("s", None, 0, None, 9, 0, (9,)),)), ((0, 0),)), 0)

    def test_every_region(self):
        for basin, rights in oracle.middle_rivers(21, 8):
            for region in oracle.all_regions(basin):
                limit = entering(basin, region)
                total = None if limit is None else supply(basin, region) + limit
                self.assertEqual(total, oracle.limit_of(basin, region), (basin, region))


class IsRegion(unittest.TestCase):
    def test_regions(self):
        for region in (((0, 0),), ((3, 2),), ((0, 0), (1, 0)), ((3, 0), (0, 1)), tuple(oracle.cells(MEET))):
            with self.subTest(region):
                self.assertIs(is_region(MEET, region), True)

    def test_every_region(self):
        basin = parse_basin(DALE)[0]
        for region in oracle.all_regions(basin):
            self.assertTrue(is_region(basin, region))
            if len(region) > 1:
                self.assertFalse(is_region(basin, region[::-1]))

    def test_what_is_none(self):
        strange = odd.Odd()
        for thing in odd.ODD_THINGS + (
            # not a tuple of one cell or more
            (), None, 0, 1, True, "", "ab", b"ab", [], [(0, 0)], {}, {(0, 0): 1}, {(0, 0)}, 1.5, strange, range(3),
            object(),
            (0, 0), (0,), ("ab",), ("",), (None,), (True,), ((),), (((0, 0),),), (strange,), [((0, 0),)], iter([(0, 0)]),
            # a cell that is none
            ([0, 0],), ((0, 0), [1, 0]), ((0,),), ((0, 0, 0),), ((0, 0), None), ((0, 0), 1), ("00",), ((0, 0), "10"),
            ((False, 0),), ((0, False),), ((True, 0),), ((0, True),), ((0.0, 0),), ((0, 0.0),), (("0", 0),),
            ((0, None),),
            ((strange, 0),), ((0, strange),), ((strange, strange),), (([], 0),), ((0, {}),), ((0, 0), (1, True)), ({0: 0},), (b"ab",),
            # a cell that is not there
            ((4, 0),), ((0, 3),), ((-1, 0),), ((0, -1),), ((10 ** 40, 0),), ((0, 10 ** 40),), ((0, 0), (0, 3)),
            ((0, 0), (4, 0)), ((-1, 0), (0, 0)), ((3, 2), (4, 2)),
            # another order, or a cell twice
            ((1, 0), (0, 0)), ((0, 1), (1, 0)), ((0, 1), (0, 0)), ((0, 0), (0, 1), (1, 0)), ((0, 0), (0, 0)),
            ((0, 0), (1, 0), (1, 0)), ((0, 0), (1, 0), (0, 0)),
        ):
            with self.subTest(repr(thing)):
                self.assertIs(is_region(MEET, thing), False)

    def test_by_the_basin(self):
        small = (1, (("s", None, 0, None, 0, 0, (0,)),))
        self.assertTrue(is_region(small, ((0, 0),)))
        self.assertFalse(is_region(small, ((0, 0), (0, 1))))
        self.assertFalse(is_region(small, ((1, 0),)))


class Bounds(unittest.TestCase):
    def test_in_no_right_plan_do_the_claims_of_a_region_get_more(self):
        for basin, rights, plans in oracle.small_rivers(23, 15, 50, 1500):
            cells = [cell for _, cell, _ in oracle.all_claims(basin, rights)]
            given = {oracle.given_to_claims(basin, rights, plan) for plan in plans}
            for region in list(oracle.all_regions(basin))[:60]:
                limit = entering(basin, region)
                if limit is None:
                    continue
                limit += supply(basin, region)
                inside = [k for k, cell in enumerate(cells) if cell in region]
                most = max(sum(row[k] for k in inside) for row in given)
                self.assertLessEqual(most, limit, (basin, rights, region))


class Exhausted(unittest.TestCase):
    def test_by_hand(self):
        basin, rights = parse_basin(DALE)
        everything = ((0, 0), (1, 0), (0, 1), (1, 1))
        self.assertIs(is_exhausted(basin, rights, everything, ("right", 1, 0)), True)
        self.assertIs(is_exhausted(basin, rights, everything, ("right", 0, 1)), False)
        # has not the claim's cell
        self.assertIs(is_exhausted(basin, rights, ((0, 0), (1, 0)), ("right", 1, 1)), False)
        # is open
        self.assertIs(is_exhausted(basin, rights, ((1, 1),), ("right", 0, 1)), False)
        # later claims do not count
        basin, rights = parse_basin("site s room 2 flow 5\nright a at s wants 3\nright b at s wants 2")
        self.assertIs(is_exhausted(basin, rights, ((0, 0),), ("right", 0, 0)), False)
        self.assertIs(is_exhausted(basin, rights, ((0, 0),), ("right", 1, 0)), True)
        self.assertIs(is_exhausted(basin, rights, ((0, 0),), ("room", 0)), True)

    def test_a_claim_that_is_not_short_can_have_one(self):
        basin, rights = parse_basin("site s flow 5\nright a at s wants 5")
        self.assertIs(is_exhausted(basin, rights, ((0, 0),), ("right", 0, 0)), True)
        self.assertIsNone(reason(basin, rights, ("right", 0, 0)))

    def test_every_region(self):
        for basin, rights in oracle.middle_rivers(24, 6):
            regions = list(oracle.all_regions(basin))
            amounts = greatest(basin, rights)
            for k, (claim, _, _) in enumerate(oracle.all_claims(basin, rights)):
                found = oracle.exhausted_regions(basin, rights, amounts, k)
                for region in regions[k % 5::5]:
                    self.assertEqual(is_exhausted(basin, rights, region, claim), region in found)


class Reasons(unittest.TestCase):
    def told(self, text, claim, region):
        basin, rights = parse_basin(text)
        with self.subTest((text, claim)):
            self.assertEqual(reason(basin, rights, claim), region)

    def test_by_hand(self):
        self.told("site s flow 5\nright a at s wants 6", ("right", 0, 0), ((0, 0),))
        self.told("site s room 2 flow 5 1\nright a at s wants 1 6", ("right", 0, 1), ((0, 1),))
        self.told("site s room 9 flow 5 1\nright a at s wants 1 6", ("right", 0, 1), ((0, 0), (0, 1)))
        self.told("site up to low flow 2\nsite low flow 1\nright a at low wants 4", ("right", 0, 0), ((0, 0), (1, 0)))
        self.told("site up to low reach 1 flow 2\nsite low flow 1\nright a at low wants 4", ("right", 0, 0), ((1, 0),))
        self.told("site up to low reach 0 flow 2\nsite low flow 1\nright a at low wants 4", ("right", 0, 0), ((1, 0),))
        text = "site up to low in 1 flow 2 0\nsite low flow 1 0\nright a at low wants 2 4"
        self.told(text, ("right", 0, 0), ((1, 0),))
        self.told(text, ("right", 0, 1), ((0, 0), (1, 1)))

    def test_a_way_without_a_limit_is_never_full(self):
        self.told("site up to low flow 2\nsite low flow 0\nright a at low wants 4", ("right", 0, 0), ((0, 0), (1, 0)))
        self.told("site up to low in 1 flow 2 0\nsite low flow 0 0\nright a at low wants 0 4", ("right", 0, 1),
                  ((0, 0), (1, 1)))
        self.told("site up to low flow 0\nsite low flow 0\nright a at low wants 4", ("right", 0, 0), ((0, 0), (1, 0)))

    def test_an_earlier_claim_above_can_be_why(self):
        text = "site up to low flow 3\nsite low flow 1\nright a at up wants 3\nright b at low wants 2"
        self.told(text, ("right", 1, 0), ((0, 0), (1, 0)))

    def test_a_claim_that_water_left_for_is_why(self):
        # What up lets down to low for the older right is not there for the younger one at up.
        text = "site up to low flow 3\nsite low flow 1\nright a at low wants 2\nright b at up wants 3"
        self.told(text, ("right", 1, 0), ((0, 0), (1, 0)))
        text = "site up to low flow 3\nsite low flow 2\nright a at low wants 2\nright b at up wants 4"
        self.told(text, ("right", 1, 0), ((0, 0),))

    def test_of_rooms(self):
        self.told("site s room 4 flow 3", ("room", 0), ((0, 0),))
        self.told("site s room 4 flow 3 1\nright a at s wants 0 1", ("room", 0), ((0, 0), (0, 1)))
        self.told("site s room 4 flow 3 1", ("room", 0), None)

    def test_none_for_a_claim_that_is_not_short(self):
        self.told("site s room 1 flow 5\nright a at s wants 4", ("right", 0, 0), None)
        self.told("site s room 1 flow 5\nright a at s wants 4", ("room", 0), None)
        self.told("site s flow 0\nright a at s wants 0", ("right", 0, 0), None)
        self.told("site s flow 0", ("room", 0), None)

    def test_the_least_of_all_exhausted_regions(self):
        rivers = [river[:2] for river in oracle.small_rivers(25, 60)] + oracle.middle_rivers(26, 25)
        for basin, rights in rivers:
            amounts = greatest(basin, rights)
            for k, (claim, _, size) in enumerate(oracle.all_claims(basin, rights)):
                with self.subTest((basin, rights, claim)):
                    found = reason(basin, rights, claim)
                    if amounts[k] == size:
                        self.assertIsNone(found)
                        continue
                    self.assertTrue(is_region(basin, found))
                    self.assertTrue(is_exhausted(basin, rights, found, claim))
                    exhausted = oracle.exhausted_regions(basin, rights, amounts, k)
                    self.assertIn(found, exhausted)
                    self.assertTrue(all(set(found) <= set(region) for region in exhausted))

    def test_beyond_the_limits(self):
        basin = (5, (("upper", "lower", 0, 500, 3000, 3000, (0,) * 5), ("lower", None, 0, None, 900, 0, (7,) * 5)))
        rights = tuple((f"right{k}", "lower", (200,) * 5) for k in range(5))
        amounts = greatest(basin, rights)
        for k, claim in enumerate(claims(basin, rights)):
            found = reason(basin, rights, claim)
            if found is not None:
                self.assertIn(claim_cell(basin, rights, claim), found)
                exhausted = oracle.exhausted_regions(basin, rights, amounts, k)
                self.assertEqual(found, min(exhausted, key=len))


if __name__ == "__main__":
    unittest.main()
