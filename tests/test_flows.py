"""g1, g2: the greatest deliveries of all claims, and which of them are short."""

import unittest

import oracle
from heldwater.basintext import parse_basin
from heldwater.flows import greatest, short_claims

DALE = "site dale to mouth room 4 flow 6 1\nsite mouth flow 2 0"
MILL = "\nright mill at mouth wants 3 4"
FARM = "\nright farm at dale wants 3 2"


class Greatest(unittest.TestCase):
    def told(self, text, amounts):
        with self.subTest(text):
            basin, rights = parse_basin(text)
            self.assertEqual(greatest(basin, rights), amounts)

    def test_the_older_right_is_ahead_in_all_months(self):
        self.told(DALE + MILL + FARM, (3, 4, 2, 0, 0, 0))
        self.told(DALE + FARM + MILL, (3, 2, 3, 1, 0, 0))

    def test_the_earlier_month_is_ahead(self):
        self.told("site s room 9 held 3 flow 0 0\nright a at s wants 2 2", (2, 1, 0))
        self.told("site s room 9 held 3 flow 0 0\nright a at s wants 0 2\nright b at s wants 2 2", (0, 2, 1, 0, 0))

    def test_rooms_are_behind_rights_and_in_their_order(self):
        self.told("site up to low room 3 held 3 flow 1\nsite low room 3 flow 1", (3, 2))
        self.told("site up to low room 3 held 3 flow 1\nsite low room 3 flow 1\nright a at low wants 2", (2, 3, 0))
        self.told("site up to low room 1 flow 4\nsite low room 3 flow 0", (1, 3))

    def test_no_right_at_all(self):
        self.told("site s flow 5", (0,))
        self.told("site s room 7 flow 5", (5,))
        self.told("site s room 4 flow 5 0", (4,))
        self.told("site s room 4 flow 0 0", (0,))

    def test_reach(self):
        text = "site up to low {}flow 9 9\nsite low flow 1 0\nright a at low wants 5 9"
        self.told(text.format("reach 0 "), (1, 0, 0, 0))
        self.told(text.format("reach 3 "), (4, 3, 0, 0))
        self.told(text.format("reach 4 "), (5, 4, 0, 0))
        self.told(text.format(""), (5, 9, 0, 0))

    def test_travel_that_brings_water_too_late(self):
        text = "site up to low {}flow 9 0 0\nsite low room 1 flow 0 0 0\nright a at low wants 1 2 3"
        self.told(text.format(""), (1, 1, 0, 0, 0))
        self.told(text.format("in 1 "), (0, 2, 1, 0, 0))
        self.told(text.format("in 2 "), (0, 0, 3, 0, 1))
        late = "site up to low in 2 flow 0 9 0\nsite low room 9 flow 0 0 0\nright a at low wants 1 2 3"
        self.told(late, (0, 0, 0, 0, 0))

    def test_water_is_kept_above_until_it_is_wanted(self):
        text = "site up to low in 1 reach 2 room 9 flow 9 0 0\nsite low room 1 flow 0 0 0\nright a at low wants 0 0 5"
        self.told(text, (0, 0, 3, 6, 0))

    def test_held(self):
        text = "site up to low room 5 held {} flow 0 0\nsite low flow 0 0\nright a at low wants 2 2"
        self.told(text.format(1), (1, 0, 0, 0))
        self.told(text.format(3), (2, 1, 0, 0))
        self.told(text.format(5), (2, 2, 1, 0))

    def test_the_room_bounds_what_goes_over_a_month(self):
        text = "site s room {} flow 9 0\nright a at s wants 2 9"
        for room in (1, 3, 7):
            self.told(text.format(room), (2, room, 0))
        self.told(text.format(9), (2, 7, 0))

    def test_a_way_is_taken_back_for_a_later_claim(self):
        # The first claim is served through the nearer site; the second one can be served by it alone.
        text = (
            "site far to low room 9 held 3 flow 0\nsite near to low flow 3\nsite low flow 0\n"
            "right a at low wants 3\nright b at near wants 3"
        )
        self.told(text, (3, 3, 0, 0, 0))
        text = (
            "site far to low flow 3\nsite near to low room 9 held 3 flow 0\nsite low flow 0\n"
            "right a at low wants 3\nright b at far wants 3"
        )
        self.told(text, (3, 3, 0, 0, 0))

    def test_every_right_plan_of_small_basins(self):
        for basin, rights, plans in oracle.small_rivers(11, 60):
            amounts = greatest(basin, rights)
            given = [oracle.given_to_claims(basin, rights, plan) for plan in plans]
            with self.subTest((basin, rights)):
                self.assertIn(amounts, given)
                for k in range(len(amounts) + 1):
                    self.assertEqual(max(sum(row[:k]) for row in given), sum(amounts[:k]))

    def test_every_region_of_greater_basins(self):
        for basin, rights in oracle.middle_rivers(12, 60):
            with self.subTest((basin, rights)):
                self.assertEqual(greatest(basin, rights), oracle.greatest_by_regions(basin, rights))

    def test_beyond_the_limits(self):
        basin = (5, (
            ("upper", "lowerland", 3, 5000, 100000, 100000, (0,) * 5),
            ("lowerland", None, 0, None, 700, 0, (1000,) * 5),
        ))
        rights = tuple((f"right{k}", "lowerland", (300,) * 5) for k in range(6))
        amounts = greatest(basin, rights)
        # The water from above comes behind the first three months; it is sent for the rights alone.
        full, late, none = (300,) * 5, (100, 100, 100, 300, 300), (0, 0, 0, 300, 300)
        self.assertEqual(amounts, full * 3 + late + none * 2 + (98400, 0))
        self.assertEqual(amounts, oracle.greatest_by_regions(basin, rights))

    def test_shape(self):
        basin, rights = parse_basin(DALE + MILL)
        self.assertIsInstance(greatest(basin, rights), tuple)


class Short(unittest.TestCase):
    def test_claims_that_get_less(self):
        basin, rights = parse_basin(DALE + MILL + FARM)
        self.assertEqual(short_claims(basin, rights), (
            (("right", 1, 0), 1), (("right", 1, 1), 2), (("room", 0), 4),
        ))
        basin, rights = parse_basin(DALE)
        self.assertEqual(short_claims(basin, rights), ())
        basin, rights = parse_basin(DALE.replace("room 4", "room 9"))
        self.assertEqual(short_claims(basin, rights), ((("room", 0), 2),))

    def test_none(self):
        basin, rights = parse_basin("site s room 2 flow 5\nright a at s wants 3")
        self.assertEqual(short_claims(basin, rights), ())
        self.assertEqual(short_claims((1, (("s", None, 0, None, 0, 0, (0,)),)), ()), ())

    def test_by_how_much(self):
        for basin, rights in oracle.middle_rivers(13, 20):
            amounts = greatest(basin, rights)
            expected = tuple(
                (claim, size - amount)
                for (claim, _, size), amount in zip(oracle.all_claims(basin, rights), amounts) if amount < size
            )
            self.assertEqual(short_claims(basin, rights), expected)


if __name__ == "__main__":
    unittest.main()
