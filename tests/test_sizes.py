"""z1, z2: the least room of a site, and its firm yield."""

import itertools
import random
import unittest

import oracle
from heldwater.basintext import parse_basin
from heldwater.flows import short_claims
from heldwater.sizes import firm_yield, least_room, with_room

DALE = (
    "site dale to mouth room 4 flow 6 1\nsite mouth flow 2 0\n"
    "right mill at mouth wants 3 4\nright farm at dale wants 3 2"
)


def first_room(basin, rights, name):
    """The first room that is enough, tried one after the other; None if none up to all water is."""
    held = [site[5] for site in basin[1] if site[0] == name][0]
    for room in range(held, oracle.all_water(basin) + 3):
        if oracle.all_served(oracle.with_room(basin, name, room), rights):
            return room
    return None


def last_yield(basin, rights, name):
    """The last amount that is never short, tried one after the other."""
    for amount in itertools.count(1):
        demands = (amount,) * basin[0]
        if oracle.deliveries_by_regions(basin, rights + (("more", name, demands),))[-1] != demands:
            return amount - 1


class WithRoom(unittest.TestCase):
    basin = (2, (
        ("a", "c", 1, 5, 3, 1, (4, 0)), ("b", "c", 0, None, 7, 2, (2, 2)), ("c", None, 0, None, 0, 0, (1, 1)),
    ))

    def test_all_else_as_it_is(self):
        for k, name in enumerate("abc"):
            for room in (0, 2, 3, 7, 99, 100, 12345):
                sites = list(self.basin[1])
                sites[k] = sites[k][:4] + (room,) + sites[k][5:]
                found = with_room(self.basin, name, room)
                self.assertEqual(found, (2, tuple(sites)))
                self.assertTrue(isinstance(found, tuple) and isinstance(found[1], tuple))

    def test_the_basin_that_is_handed_in_stays(self):
        kept = parse_basin(DALE)[0]
        basin = parse_basin(DALE)[0]
        with_room(basin, "dale", 50)
        self.assertEqual(basin, kept)


class LeastRoom(unittest.TestCase):
    def told(self, text, site, room):
        with self.subTest((text, site)):
            basin, rights = parse_basin(text)
            self.assertEqual(least_room(basin, rights, site), room)

    def test_by_hand(self):
        basin, rights = parse_basin(DALE)
        self.assertEqual(least_room(basin, rights[:1], "dale"), 3)
        # what the mouth stores does it, too
        no_room = with_room(basin, "dale", 0)
        self.assertEqual(least_room(no_room, rights[:1], "mouth"), 3)
        self.assertEqual(least_room(no_room, rights[1:], "dale"), 1)
        self.assertIsNone(least_room(no_room, rights[1:], "mouth"))

    def test_none(self):
        basin, rights = parse_basin(DALE)
        self.assertIsNone(least_room(basin, rights, "dale"))
        self.told("site s flow 4 4\nright a at s wants 4 5", "s", None)
        # short in the first month, whatever is stored
        self.told("site s room 9 flow 0 9\nright a at s wants 1 0", "s", None)

    def test_of_at_least_what_is_held(self):
        self.told("site s room 5 held 3 flow 4 4\nright a at s wants 4 4", "s", 3)
        self.told("site s room 5 held 3 flow 4 4\nright a at s wants 4 6", "s", 3)
        self.told("site s room 5 held 3 flow 4 4\nright a at s wants 3 8", "s", 4)
        self.told("site s room 5 held 3 flow 4 4\nright a at s wants 3 9", "s", None)
        self.told("site s room 5 held 5 flow 0 0\nright a at s wants 0 1", "s", 5)
        self.told("site s room 9 flow 4 4\nright a at s wants 4 4", "s", 0)

    def test_no_right_or_no_demand(self):
        self.told("site s room 5 held 3 flow 4 4", "s", 3)
        self.told("site s room 5 flow 0 0\nright a at s wants 0 0", "s", 0)

    def test_the_room_of_its_own_is_not_looked_at(self):
        for room in ("", "room 1 ", "room 6 ", "room 7 ", "room 99 "):
            self.told(f"site s {room}flow 9 1\nright a at s wants 1 8", "s", 7)

    def test_above_99(self):
        self.told("site s flow 99 99 0\nright a at s wants 0 0 99\nright b at s wants 0 0 70", "s", 169)
        self.told("site s room 9 flow 99 99 99 0\nright a at s wants 0 0 0 99\nright b at s wants 0 0 0 99\n"
                  "right c at s wants 0 0 0 99", "s", 297)
        self.told("site up to s flow 99 99 0\nsite s room 60 flow 0 0 0\nright a at s wants 0 0 99\nright b at s wants 0 0 99",
                  "up", 138)

    def test_all_water_is_wanted_late(self):
        self.told("site s flow 9 9 0\nright a at s wants 0 0 18", "s", 18)
        self.told("site s room 2 held 2 flow 9 9 0\nright a at s wants 0 0 20", "s", 20)
        self.told("site s room 2 held 2 flow 9 9 0\nright a at s wants 0 0 21", "s", None)

    def test_a_right_that_is_short_at_another_site(self):
        text = "site up to out flow 5 0\nsite low to out flow 9 0\nsite out flow 0 9\n"
        self.told(text + "right a at up wants 5 0\nright b at low wants 0 4", "low", 4)
        self.told(text + "right a at up wants 5 1\nright b at low wants 0 4", "low", None)
        self.told(text + "right a at up wants 5 1\nright b at low wants 0 4", "up", None)
        # rooms of other sites may be short
        self.told(text.replace("up to out", "up to out room 9") + "right b at low wants 0 4", "low", 4)

    def test_rights_below_and_beside(self):
        # Three units have to wait a month, at up or at low.
        text = "site up to low in 1 flow 6 6 0\nsite low flow 1 0 0\nright a at low wants 0 0 9"
        self.told(text, "up", 3)
        self.told(text, "low", 3)
        text = text.replace("flow 6", "room 9 flow 6")
        self.told(text, "up", 3)
        self.told(text, "low", 0)

    def test_the_first_room_that_is_enough(self):
        found = []
        for basin, rights in self.rivers():
            for name, *_ in basin[1]:
                with self.subTest((basin, rights, name)):
                    room = least_room(basin, rights, name)
                    self.assertEqual(room, first_room(basin, rights, name))
                    found.append(room)
        self.assertGreaterEqual(len({room for room in found if room is not None}), 5)
        self.assertIn(None, found)

    def rivers(self):
        luck = random.Random(66)
        thirsty = oracle.middle_rivers(61, 60)
        modest = [(basin, tuple(
            (name, place, tuple(min(amount, 1) for amount in demands)) for name, place, demands in rights
        )) for basin, rights in oracle.middle_rivers(62, 60)]
        late = [(basin, tuple(
            (name, place, (0,) * (basin[0] - 1) + (max(demands) + luck.randint(0, 4),)) for name, place, demands in rights
        )) for basin, rights in oracle.middle_rivers(65, 90)]
        return thirsty + modest + late

    def test_what_it_says(self):
        for basin, rights in self.rivers():
            for name, _, _, _, _, held, _ in basin[1]:
                room = least_room(basin, rights, name)
                if room is None:
                    continue
                self.assertTrue(all(claim[0] == "room" for claim, _ in short_claims(with_room(basin, name, room), rights)))
                if room > held:
                    less = short_claims(with_room(basin, name, room - 1), rights)
                    self.assertEqual(less[0][0][0], "right")

    def test_beyond_the_limits(self):
        basin = (5, (("upper", "lower", 3, None, 0, 0, (3000, 0, 0, 0, 0)), ("lower", None, 0, None, 0, 0, (0,) * 5)))
        rights = (("toolong", "lower", (0, 0, 0, 0, 1000)),) + tuple(
            (f"right{k}", "lower", (0, 0, 0, 0, 300)) for k in range(5)
        )
        self.assertEqual(least_room(basin, rights, "upper"), 2500)
        self.assertEqual(least_room(basin, rights, "lower"), 2500)


class FirmYield(unittest.TestCase):
    def told(self, text, site, amount):
        with self.subTest((text, site)):
            basin, rights = parse_basin(text)
            self.assertEqual(firm_yield(basin, rights, site), amount)

    def test_by_hand(self):
        basin, rights = parse_basin(DALE)
        self.assertEqual(firm_yield(basin, (), "mouth"), 4)
        self.assertEqual(firm_yield(basin, (), "dale"), 3)
        self.assertEqual(firm_yield(basin, rights[:1], "dale"), 1)
        self.assertEqual(firm_yield(basin, rights[1:], "mouth"), 2)

    def test_0(self):
        self.told("site s flow 5 0", "s", 0)
        self.told("site s room 9 flow 0 5", "s", 0)
        self.told("site s flow 5\nright a at s wants 5", "s", 0)
        self.told("site s flow 5\nright a at s wants 9", "s", 0)
        self.told("site s flow 0 0 0 0", "s", 0)
        self.told("site up to low in 1 flow 9 9\nsite low flow 0 0", "low", 0)

    def test_held_water(self):
        self.told("site s room 9 held 9 flow 0 0 0", "s", 3)
        self.told("site s room 9 held 8 flow 0 0 0", "s", 2)
        self.told("site s room 9 held 8 flow 0 0 9", "s", 4)
        self.told("site s room 2 held 2 flow 0 0", "s", 1)

    def test_above_99(self):
        self.told("site s room 99 held 99 flow 99", "s", 198)
        self.told("site s room 99 held 99 flow 99 99", "s", 148)
        self.told("site a to d room 99 held 99 flow 99\nsite b to d room 99 held 99 flow 99\n"
                  "site c to d room 99 held 99 flow 99\nsite d room 99 held 99 flow 99", "d", 792)

    def test_the_youngest_of_all(self):
        text = "site s room 9 flow 6 2\nright a at s wants {}"
        for demands, amount in (("0 0", 4), ("1 0", 3), ("0 5", 1), ("5 0", 1), ("6 0", 0), ("0 8", 0), ("2 2", 2), ("2 3", 1)):
            self.told(text.format(demands), "s", amount)

    def test_beside_four_rights(self):
        text = "site s room 9 flow 9 9" + "".join(f"\nright {name} at s wants 1 2" for name in "abcd")
        self.told(text, "s", 3)
        text = "site up to s room 9 flow 9 9\nsite s flow 0 0" + "".join(f"\nright {name} at s wants 1 2" for name in "abcd")
        self.told(text, "s", 3)
        self.told(text, "up", 3)

    def test_rights_that_are_short_elsewhere_do_not_count(self):
        self.told("site up to low flow 5\nsite low flow 7\nright a at up wants 9", "low", 7)
        self.told("site up to low flow 5\nsite low flow 7\nright a at up wants 9", "up", 0)
        self.told("site up to low flow 5 5\nsite low flow 7 9\nright a at up wants 2 9", "low", 9)

    def test_older_rights_below(self):
        self.told("site up to low flow 8\nsite low flow 1\nright a at low wants 4", "up", 5)
        self.told("site up to low reach 2 flow 8\nsite low flow 1\nright a at low wants 4", "up", 6)

    def test_the_last_amount_that_is_never_short(self):
        found = set()
        for basin, rights in oracle.middle_rivers(63, 50):
            for name, *_ in basin[1]:
                with self.subTest((basin, rights, name)):
                    amount = firm_yield(basin, rights, name)
                    self.assertEqual(amount, last_yield(basin, rights, name))
                    found.add(amount)
        self.assertGreaterEqual(len(found), 3)

    def test_without_rights(self):
        for basin, _ in oracle.middle_rivers(64, 30):
            for name, *_ in basin[1]:
                self.assertEqual(firm_yield(basin, (), name), last_yield(basin, (), name))

    def test_a_right_may_be_called_anything(self):
        for name in ("more", "next", "x", "firm", "new", "a"):
            self.told(f"site s flow 5\nright {name} at s wants 2", "s", 3)

    def test_beyond_the_limits(self):
        basin = (5, (("upper", "lower", 0, None, 3000, 3000, (0,) * 5), ("lower", None, 0, None, 0, 0, (100,) * 5)))
        rights = tuple((f"right{k}", "lower", (50,) * 5) for k in range(6))
        self.assertEqual(firm_yield(basin, rights, "lower"), 400)
        self.assertEqual(firm_yield(basin, rights, "upper"), 400)
        self.assertEqual(firm_yield(basin, (), "upper"), 600)


if __name__ == "__main__":
    unittest.main()
