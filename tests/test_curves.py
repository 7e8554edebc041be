"""y1, y2: yield curves, and what rooms and reaches are worth."""

import itertools
import random
import unittest

import odd
import oracle
from heldwater.basintext import parse_basin
from heldwater.curves import reach_worth, room_worth, yield_curve
from heldwater.sizes import firm_yield, with_room

DALE = "site dale to mouth room 1 flow 6 1\nsite mouth flow 2 0\nright mill at mouth wants 3 4"


def yield_by_regions(basin, place):
    """The firm yield without rights: no region lacks what is wanted of it in every month."""
    at = oracle.number_of(basin, place)
    most = None
    for region in oracle.all_regions(basin):
        limit, wanted = oracle.limit_of(basin, region), sum(s == at for s, _ in region)
        if limit is not None and wanted and (most is None or limit // wanted < most):
            most = limit // wanted
    return most


def curve_room_by_room(basin, dam, place, yield_of):
    held = [site[5] for site in basin[1] if site[0] == dam][0]
    pairs = []
    for room in range(held, oracle.all_water(basin) + 1):
        amount = yield_of(oracle.with_room(basin, dam, room), place)
        if not pairs or pairs[-1][1] != amount:
            pairs.append((room, amount))
    return tuple(pairs)


class YieldCurve(unittest.TestCase):
    def told(self, text, dam, place, pairs):
        with self.subTest((text, dam, place)):
            self.assertEqual(yield_curve(parse_basin(text)[0], dam, place), pairs)

    def test_by_hand(self):
        self.told(DALE, "dale", "mouth", ((0, 1), (1, 2), (2, 3), (3, 4)))
        self.told(DALE, "dale", "dale", ((0, 1), (1, 2), (2, 3)))
        # the dale stores one unit all the same
        self.told(DALE, "mouth", "mouth", ((0, 2), (1, 3), (2, 4)))

    def test_a_place_that_is_not_below_the_dam(self):
        self.told(DALE, "mouth", "dale", ((0, 2),))
        self.told(DALE.replace("room 1", "room 3"), "mouth", "dale", ((0, 3),))
        text = "site left to low flow 9 0\nsite right to low flow 4 2\nsite low flow 0 0"
        self.told(text, "left", "right", ((0, 2),))
        self.told(text, "right", "right", ((0, 2), (1, 3)))

    def test_one_pair_where_no_room_helps(self):
        self.told("site s flow 5", "s", "s", ((0, 5),))
        self.told("site s flow 5 5 5", "s", "s", ((0, 5),))
        self.told("site s flow 2 5 9", "s", "s", ((0, 2),))
        self.told("site s flow 0 9 9", "s", "s", ((0, 0),))
        self.told("site s flow 0 0 0 0", "s", "s", ((0, 0),))
        self.told("site s room 9 held 4 flow 5", "s", "s", ((4, 9),))

    def test_from_what_is_held_on(self):
        self.told("site s room 9 held 4 flow 5 1", "s", "s", ((4, 5),))
        self.told("site s room 9 held 4 flow 7 1", "s", "s", ((4, 5), (5, 6)))
        self.told("site s room 9 held 9 flow 7 0 0", "s", "s", ((9, 4), (10, 5)))
        # held below, not at the dam
        self.told("site up to low flow 8 0\nsite low room 3 held 3 flow 0 0", "up", "low", ((0, 3), (1, 4), (2, 5)))

    def test_the_room_of_its_own_is_not_looked_at(self):
        for room in ("", "room 1 ", "room 3 ", "room 99 "):
            self.told(f"site s {room}flow 9 1", "s", "s", ((0, 1), (1, 2), (2, 3), (3, 4), (4, 5)))

    def test_rooms_that_do_not_help_at_once(self):
        # two months have to be filled with each unit more
        self.told("site s flow 9 0 0", "s", "s", ((0, 0), (2, 1), (4, 2), (6, 3)))
        self.told("site s flow 20 0 0 0", "s", "s", ((0, 0), (3, 1), (6, 2), (9, 3), (12, 4), (15, 5)))
        self.told("site s flow 9 3 0", "s", "s", ((0, 0), (1, 1), (2, 2), (3, 3), (5, 4)))

    def test_up_to_all_water(self):
        self.told("site s flow 1 0", "s", "s", ((0, 0),))
        self.told("site s flow 2 0", "s", "s", ((0, 0), (1, 1)))
        curve = yield_curve(parse_basin("site s flow 99 99 0 0")[0], "s", "s")
        self.assertEqual(curve, tuple((room, room // 2) for room in range(0, 99, 2)))
        # a room of 100 and more
        self.told("site s room 99 held 98 flow 99 0", "s", "s", ((98, 98),))
        curve = yield_curve(parse_basin("site s flow 99 99 99 0")[0], "s", "s")
        self.assertEqual(curve[-1], (74, 74))
        text = "site a to s flow 99 0\nsite b to s flow 99 0\nsite c to s flow 99 0\nsite s flow 99 0"
        self.assertEqual(yield_curve(parse_basin(text)[0], "s", "s"), tuple((room, room) for room in range(199)))
        self.assertEqual(yield_curve(parse_basin(text)[0], "a", "s")[-1], (99, 99))

    def test_travel_and_reaches(self):
        text = "site up to low in 1 flow 6 0 0\nsite low flow 2 0 0"
        self.told(text, "up", "low", ((0, 0), (1, 1), (2, 2)))
        self.told(text, "low", "low", ((0, 0), (1, 1), (2, 2)))
        self.told(text.replace("in 1", "in 1 reach 1"), "up", "low", ((0, 0), (1, 1)))
        self.told(text.replace("in 1", "in 2"), "up", "low", ((0, 0),))
        self.told(text.replace("in 1", "in 2"), "low", "low", ((0, 0), (1, 1)))

    def test_against_each_room(self):
        lengths = set()
        for basin, _ in oracle.middle_rivers(401, 40):
            for dam, place in itertools.product([site[0] for site in basin[1]], repeat=2):
                with self.subTest((basin, dam, place)):
                    curve = yield_curve(basin, dam, place)
                    self.assertEqual(curve, curve_room_by_room(basin, dam, place, lambda b, p: firm_yield(b, (), p)))
                    lengths.add(len(curve))
                    self.assertLessEqual(curve[-1][0], oracle.all_water(basin))
                    for before, after in zip(curve, curve[1:]):
                        self.assertTrue(before[0] < after[0] and before[1] < after[1])
        self.assertGreater(len(lengths), 2)

    def test_against_all_regions(self):
        luck = random.Random(402)
        lengths = set()
        for _ in range(25):
            basin, _ = oracle.random_basin(luck, luck.choice((2, 3)), luck.choice((1, 2)), 9)
            wet = [[luck.randint(2, 9)] + list(site[6][1:]) for site in basin[1]]
            basin = oracle.with_inflows(basin, wet)
            for dam, place in itertools.product([site[0] for site in basin[1]], repeat=2):
                with self.subTest((basin, dam, place)):
                    curve = yield_curve(basin, dam, place)
                    self.assertEqual(curve, curve_room_by_room(basin, dam, place, yield_by_regions))
                    lengths.add(len(curve))
        self.assertGreater(len(lengths), 2)

    def test_with_these_rooms(self):
        basin = parse_basin("site up to low room 9 held 2 flow 30 0 1\nsite low room 4 flow 9 0 0")[0]
        curve = yield_curve(basin, "up", "low")
        self.assertGreater(len(curve), 4)
        for room, amount in curve:
            self.assertEqual(firm_yield(with_room(basin, "up", room), (), "low"), amount)

    def test_beyond_the_limits(self):
        basin = (5, (("upper", "lower", 0, None, 3000, 0, (600,) + (0,) * 4), ("lower", None, 0, None, 0, 0, (100,) * 5)))
        self.assertEqual(yield_curve(basin, "upper", "lower"), tuple((4 * k, 100 + k) for k in range(121)))

    def test_shape(self):
        for _, part in odd.with_parts(yield_curve(parse_basin(DALE)[0], "dale", "mouth")):
            self.assertIsInstance(part, (tuple, int))


def given_to_rights(basin, rights):
    """What all rights together get, by all regions."""
    return sum(sum(row) for row in oracle.deliveries_by_regions(basin, rights))


def worth_by_regions(basin, rights, place):
    """By how much all rights get more with one more in this place of the tuple of a site."""
    months, sites = basin
    now = given_to_rights(basin, rights)
    found = []
    for s, site in enumerate(sites):
        if site[place] is None:
            found.append(0)
            continue
        more = site[:place] + (site[place] + 1,) + site[place + 1:]
        found.append(given_to_rights((months, sites[:s] + (more,) + sites[s + 1:]), rights) - now)
    return tuple(found)


class Worth(unittest.TestCase):
    def told(self, text, rooms, reaches):
        with self.subTest(text):
            basin, rights = parse_basin(text)
            self.assertEqual((room_worth(basin, rights), reach_worth(basin, rights)), (rooms, reaches))

    def test_by_hand(self):
        self.told(DALE, (1, 1), (0, 0))
        self.told(DALE.replace("room 1", "room 3"), (0, 0), (0, 0))
        self.told("site s flow 9 0\nright a at s wants 0 4", (1,), (0,))
        self.told("site s flow 9 0\nright a at s wants 4 0", (0,), (0,))

    def test_a_unit_of_room_can_be_used_each_month_again(self):
        self.told("site s flow 9 0 9 0\nright a at s wants 0 9 0 9", (2,), (0,))
        self.told("site s flow 9 0 9 0\nright a at s wants 0 9 0 0\nright b at s wants 0 0 0 9", (2,), (0,))
        self.told("site up to low reach 1 flow 9 9 9\nsite low flow 0 0 0\nright a at low wants 9 9 9", (0, 0), (3, 0))
        self.told("site up to low in 1 reach 1 flow 9 9 9\nsite low flow 0 0 0\nright a at low wants 9 9 9", (0, 0), (2, 0))

    def test_a_room_that_is_full_at_the_end_is_no_right(self):
        self.told("site s flow 9", (0,), (0,))
        self.told("site s flow 9\nright a at s wants 3", (0,), (0,))

    def test_a_reach_of_0(self):
        self.told("site up to low reach 0 flow 5\nsite low flow 0\nright a at low wants 3", (0, 0), (1, 0))
        self.told("site up to low reach 3 flow 5\nsite low flow 0\nright a at low wants 3", (0, 0), (0, 0))
        self.told("site up to low reach 5 flow 5\nsite low flow 0\nright a at low wants 9", (0, 0), (0, 0))

    def test_a_reach_without_a_limit(self):
        self.told("site up to low flow 5\nsite low flow 0\nright a at low wants 3", (0, 0), (0, 0))

    def test_what_an_older_right_wins_may_be_lost_by_a_younger_one(self):
        # All together get nothing more: what comes down is lacking above.
        self.told("site up to low reach 1 flow 3\nsite low flow 0\nright a at low wants 9\nright b at up wants 9", (0, 0), (0, 0))
        self.told("site up to low reach 1 flow 3\nsite low flow 0\nright b at up wants 1\nright a at low wants 9", (0, 0), (1, 0))

    def test_no_rights(self):
        self.told("site up to low reach 1 room 1 flow 9 9\nsite low room 1 flow 9 9", (0, 0), (0, 0))
        self.told("site s flow 9", (0,), (0,))

    def test_for_each_site(self):
        text = (
            "site a to d reach 1 flow 5 0\nsite b to d reach 2 flow 5 0\nsite c to d flow 5 0\nsite d flow 5 0\n"
            "right r at d wants 0 99"
        )
        self.told(text, (1, 1, 1, 1), (0, 0, 0, 0))
        text = text.replace("wants 0 99", "wants 99 0")
        self.told(text, (0, 0, 0, 0), (1, 1, 0, 0))

    def test_against_all_regions(self):
        rooms, reaches = set(), set()
        luck = random.Random(405)
        rivers = oracle.middle_rivers(403, 40)
        for _ in range(20):
            basin, rights = oracle.random_basin(luck, 4, 1, 9)
            # wet and dry months by turns
            rivers.append((oracle.with_inflows(basin, [[luck.randint(2, 9), 0, luck.randint(2, 9), 0]]), rights))
        for basin, rights in rivers:
            with self.subTest((basin, rights)):
                self.assertEqual(room_worth(basin, rights), worth_by_regions(basin, rights, 4))
                self.assertEqual(reach_worth(basin, rights), worth_by_regions(basin, rights, 3))
                rooms.update(room_worth(basin, rights))
                reaches.update(reach_worth(basin, rights))
        self.assertGreaterEqual(min(rooms | reaches), 0)
        self.assertTrue(max(rooms) > 1 and max(reaches) > 1, (rooms, reaches))

    def test_in_any_order_of_the_rights(self):
        for basin, rights in oracle.middle_rivers(404, 40):
            for order in itertools.permutations(rights):
                self.assertEqual(room_worth(basin, order), room_worth(basin, rights))
                self.assertEqual(reach_worth(basin, order), reach_worth(basin, rights))

    def test_rooms_and_reaches_of_99_and_above(self):
        self.told("site s room 99 flow 99 0 0\nright a at s wants 0 99 9", (0,), (0,))
        text = (
            "site a to d room 99 held 99 flow 99 0\nsite b to d room 99 held 99 flow 99 0\nsite c to d reach 99 flow 99 0\n"
            "site d room 99 flow 99 0\nright r at d wants 0 99\nright s at d wants 0 99\nright t at d wants 0 99\n"
            "right u at d wants 0 99"
        )
        self.told(text, (1, 1, 1, 1), (0, 0, 0, 0))
        text = "site up to low reach 99 room 99 held 99 flow 99\nsite low flow 0\nright a at low wants 99\nright b at low wants 99"
        self.told(text, (0, 0), (1, 0))

    def test_the_basin_stays(self):
        basin, rights = parse_basin(DALE)
        room_worth(basin, rights)
        reach_worth(basin, rights)
        yield_curve(basin, "dale", "mouth")
        self.assertEqual((basin, rights), parse_basin(DALE))

    def test_beyond_the_limits(self):
        basin = (5, (("upper", "lower", 3, 500, 3000, 3000, (0,) * 5), ("lower", None, 0, None, 900, 0, (500,) * 5)))
        rights = tuple((f"right{k}", "lower", (200,) * 5) for k in range(6))
        self.assertEqual(room_worth(basin, rights), worth_by_regions(basin, rights, 4))
        self.assertEqual(reach_worth(basin, rights), worth_by_regions(basin, rights, 3))


if __name__ == "__main__":
    unittest.main()
