"""l1 to l3: rights under leases, what is refused, harm, what rights have, the safe lease."""

import itertools
import random
import unittest

import odd
import oracle
from heldwater.basintext import parse_basin
from heldwater.errors import BadChange
from heldwater.leases import gets, harm, safe_lease, under

LOW, LENDERS = parse_basin(
    "site up to low flow 4\nsite low flow 1\nright a at low wants 4\nright b at low wants 2\nright c at up wants 3"
)

WIDE, OWNERS = parse_basin(
    "site up to low room 3 flow 4 5\nsite low room 2 flow 1 2\n"
    "right old at low wants 5 6\nright mid at up wants 7 8\nright young at low wants 9 99\nright last at up wants 0 1"
)


def under_by_hand(rights, leases, months, letters="abcd"):
    """The rights under leases, and whose each of them is."""
    places = {name: place for name, place, _ in rights}
    found = []
    for name, place, demands in rights:
        lends = [(k, lease) for k, lease in enumerate(leases) if lease[0] == name]
        left = list(demands)
        for _, (_, _, month, amount) in lends:
            left[month] -= amount
        found.append((name, (name, place, tuple(left))))
        for k, (_, borrower, month, amount) in lends:
            wants = [0] * months
            wants[month] = amount
            found.append((borrower, ("lease" + letters[k], places[borrower], tuple(wants))))
    return found


def had_by_hand(basin, rights, leases):
    """What each right has under leases."""
    pairs = under_by_hand(rights, leases, basin[0])
    rows = oracle.deliveries_by_regions(basin, tuple(right for _, right in pairs))
    had = {name: [0] * basin[0] for name, _, _ in rights}
    for (owner, _), row in zip(pairs, rows):
        for m, amount in enumerate(row):
            had[owner][m] += amount
    return {name: tuple(row) for name, row in had.items()}


def harm_by_hand(basin, rights, leases):
    before, after = had_by_hand(basin, rights, ()), had_by_hand(basin, rights, leases)
    partners = {name for lease in leases for name in lease[:2]}
    return tuple(
        (name, m, before[name][m], after[name][m])
        for name, _, _ in rights if name not in partners for m in range(basin[0]) if after[name][m] < before[name][m]
    )


def crowded_rivers(seed, many):
    """Pairs (basin, rights) with three or four rights that want most of the water, and narrow reaches."""
    luck = random.Random(seed)
    found = []
    for _ in range(many):
        months, count = luck.choice(((1, 3), (2, 2), (2, 3), (3, 2)))
        names = "abc"[:count]
        sites = [
            (name, luck.choice(names[s + 1:]), luck.choice((0, 0, 1)), luck.choice((0, 1, 2, None)), luck.choice((0, 1, 3)), 0,
             tuple(luck.randint(0, 5) for _ in range(months)))
            for s, name in enumerate(names[:-1])
        ]
        sites.append((names[-1], None, 0, None, 0, 0, tuple(luck.randint(0, 4) for _ in range(months))))
        rights = tuple(
            (name, luck.choice(names), tuple(luck.randint(0, 4) for _ in range(months)))
            for name in "wxyz"[:luck.choice((3, 4, 4))]
        )
        found.append(((months, tuple(sites)), rights))
    return found


def some_leases(seed, many):
    """Triples (basin, rights, leases) with one to four leases that are not refused."""
    luck = random.Random(seed)
    found = []
    for basin, rights in crowded_rivers(seed, many):
        left = {(name, m): demands[m] for name, _, demands in rights for m in range(basin[0])}
        leases = []
        for _ in range(luck.randint(1, 4)):
            lenders = [key for key in left if left[key]]
            if lenders:
                lender, month = luck.choice(lenders)
                borrower = luck.choice([name for name, _, _ in rights if name != lender])
                amount = luck.randint(1, left[lender, month])
                left[lender, month] -= amount
                leases.append((lender, borrower, month, amount))
        found.append((basin, rights, tuple(leases)))
    return found


class Under(unittest.TestCase):
    def told(self, leases, rights):
        with self.subTest(leases):
            self.assertEqual(under(WIDE, OWNERS, leases), rights)

    def test_no_lease(self):
        self.told((), OWNERS)
        self.assertEqual(under(LOW, (), ()), ())

    def test_one(self):
        old, mid, young, last = OWNERS
        self.told((("old", "mid", 0, 2),), (("old", "low", (3, 6)), ("leasea", "up", (2, 0)), mid, young, last))
        self.told((("mid", "old", 1, 3),), (old, ("mid", "up", (7, 5)), ("leasea", "low", (0, 3)), young, last))
        self.told((("last", "young", 1, 1),), (old, mid, young, ("last", "up", (0, 0)), ("leasea", "low", (0, 1))))

    def test_names_go_by_all_leases_in_order(self):
        old, mid, young, last = OWNERS
        self.told((("young", "mid", 0, 2), ("old", "mid", 1, 4), ("young", "old", 1, 50), ("old", "last", 1, 1)), (
            ("old", "low", (5, 1)), ("leaseb", "up", (0, 4)), ("leased", "up", (0, 1)), mid,
            ("young", "low", (7, 49)), ("leasea", "up", (2, 0)), ("leasec", "low", (0, 50)), last,
        ))

    def test_several_of_one_right(self):
        old, mid, young, last = OWNERS
        self.told((("old", "mid", 0, 1), ("old", "young", 0, 2), ("old", "mid", 0, 2), ("old", "mid", 1, 6)), (
            ("old", "low", (0, 0)), ("leasea", "up", (1, 0)), ("leaseb", "low", (2, 0)), ("leasec", "up", (2, 0)),
            ("leased", "up", (0, 6)), mid, young, last,
        ))

    def test_lenders_that_borrow(self):
        old, mid, young, last = OWNERS
        self.told((("old", "mid", 0, 5), ("mid", "old", 0, 7)), (
            ("old", "low", (0, 6)), ("leasea", "up", (5, 0)), ("mid", "up", (0, 8)), ("leaseb", "low", (7, 0)), young, last,
        ))

    def test_the_most_of_an_amount(self):
        old, mid, young, last = OWNERS
        self.told((("young", "old", 1, 99),), (old, mid, ("young", "low", (9, 0)), ("leasea", "low", (0, 99)), last))
        self.told((("young", "old", 1, 98), ("young", "mid", 1, 1)), (
            old, mid, ("young", "low", (9, 0)), ("leasea", "low", (0, 98)), ("leaseb", "up", (0, 1)), last,
        ))

    def test_by_luck(self):
        for basin, rights, leases in some_leases(91, 60):
            self.assertEqual(under(basin, rights, leases),
                             tuple(right for _, right in under_by_hand(rights, leases, basin[0])))

    def test_the_rights_that_are_handed_in_stay(self):
        basin, rights = parse_basin(
            "site up to low flow 4\nsite low flow 1\nright a at low wants 4\nright b at low wants 2\nright c at up wants 3"
        )
        leases = (("a", "c", 0, 2), ("a", "b", 0, 1))
        kept = tuple(leases)
        for call in (under, harm):
            call(basin, rights, leases)
        gets(basin, rights, leases, "a")
        safe_lease(basin, rights, "a", "c", 0)
        self.assertEqual((basin, rights, leases), (LOW, LENDERS, kept))

    def test_shape(self):
        for _, part in odd.with_parts(under(WIDE, OWNERS, (("old", "mid", 0, 2),))):
            self.assertIsInstance(part, (tuple, str, int))


class Refused(unittest.TestCase):
    good = ("old", "mid", 0, 2)

    def refused(self, leases, why, rights=OWNERS):
        for call in (under, harm, lambda *told: gets(*told, "old")):
            with self.subTest(leases):
                with self.assertRaises(BadChange) as caught:
                    call(WIDE, rights, leases)
                self.assertEqual(caught.exception.reason, why)

    def test_no_such_right(self):
        for name in ("new", "", "Old", "up", "low", "leasea"):
            self.refused(((name, "mid", 0, 1),), "no such right")
            self.refused((("mid", name, 0, 1),), "no such right")
            self.refused(((name, name, 0, 1),), "no such right")
            self.refused((self.good, (name, "mid", 0, 1)), "no such right")
        self.refused((self.good,), "no such right", ())
        self.refused((self.good,), "no such right", OWNERS[1:])
        self.refused((self.good,), "no such right", OWNERS[:1])
        # a right under a lease is none
        self.refused((self.good, ("leasea", "old", 0, 1)), "no such right")

    def test_same_right(self):
        for name in ("old", "mid", "young", "last"):
            self.refused(((name, name, 0, 1),), "same right")

    def test_no_such_month(self):
        for month in (2, 3, 99, -1, -2, -99):
            self.refused((("old", "mid", month, 1),), "no such month")

    def test_no_such_amount(self):
        for amount in (0, -1, -99, 100, 1000):
            self.refused((("young", "mid", 1, amount),), "no such amount")
        self.assertEqual(len(under(WIDE, OWNERS, (("young", "mid", 1, 99),))), 5)
        self.assertEqual(len(under(WIDE, OWNERS, (("young", "mid", 1, 1),))), 5)
        # also if a right beyond the limits has more
        richer = (("old", "low", (500, 500)),) + OWNERS[1:]
        self.refused((("old", "mid", 0, 100),), "no such amount", richer)

    def test_more_than_it_has(self):
        self.refused((("old", "mid", 0, 6),), "more than it has")
        self.refused((("old", "mid", 1, 7),), "more than it has")
        self.refused((("last", "mid", 0, 1),), "more than it has")
        self.refused((("old", "mid", 0, 3), ("old", "young", 0, 3)), "more than it has")
        self.refused((("old", "mid", 0, 5), ("old", "mid", 0, 1)), "more than it has")
        self.refused((("old", "mid", 0, 2), ("mid", "old", 0, 1), ("old", "young", 0, 2), ("old", "last", 0, 2)),
                     "more than it has")

    def test_all_that_it_demands(self):
        for leases in (
            (("old", "mid", 0, 5),), (("old", "mid", 0, 3), ("old", "young", 0, 2)),
            # those of other months and of other lenders do not count
            (("old", "mid", 0, 5), ("old", "mid", 1, 6)), (("old", "mid", 0, 5), ("mid", "old", 0, 7)),
            (("old", "mid", 0, 1), ("old", "mid", 0, 1), ("old", "mid", 0, 1), ("old", "mid", 0, 2)),
        ):
            self.assertEqual(under(WIDE, OWNERS, leases)[0][2][0], 0)

    def test_what_it_borrows_cannot_be_lent(self):
        self.refused((("young", "last", 0, 5), ("last", "mid", 0, 1)), "more than it has")

    def test_what_it_gets_is_not_looked_at(self):
        dry = parse_basin("site s flow 0\nright a at s wants 9\nright b at s wants 9")
        self.assertEqual(under(*dry, (("a", "b", 0, 9),)), (("a", "s", (0,)), ("leasea", "s", (9,)), ("b", "s", (9,))))

    def test_too_many(self):
        self.refused((("young", "old", 1, 1),) * 5, "too many leases")
        self.refused((("young", "old", 1, 1),) * 9, "too many leases")
        self.assertEqual(len(under(WIDE, OWNERS, (("young", "old", 1, 1),) * 4)), 8)

    def test_the_first_of_two_in_one_lease(self):
        # Each row is refused for its reason and for all that come behind it.
        for lease, why in (
            (("new", "new", 9, 0), "no such right"), (("old", "new", 9, 100), "no such right"),
            (("old", "old", 9, 0), "same right"), (("old", "old", 0, 6), "same right"),
            (("old", "mid", 9, 0), "no such month"), (("old", "mid", -1, 100), "no such month"),
            (("old", "mid", 0, 100), "no such amount"), (("last", "mid", 0, 0), "no such amount"),
        ):
            self.refused((lease,), why)

    def test_lease_by_lease(self):
        bad = {
            "no such right": ("new", "mid", 0, 1), "same right": ("mid", "mid", 0, 1), "no such month": ("mid", "old", 2, 1),
            "no such amount": ("mid", "old", 0, 0), "more than it has": ("last", "old", 0, 1),
        }
        for (why, lease), (_, other) in itertools.permutations(bad.items(), 2):
            self.refused((lease, other), why)
            self.refused((self.good, lease, other), why)
            self.refused((lease, other) + (self.good,) * 3, why)
        for why, lease in bad.items():
            for k in range(5):
                leases = [("young", "old", 1, 1)] * 4
                leases.insert(k, lease)
                # also if it is the fifth itself
                self.refused(tuple(leases), why)
                self.refused(tuple(leases) + (self.good,), why)


class Harm(unittest.TestCase):
    def test_by_hand(self):
        self.assertEqual(harm(LOW, LENDERS, (("a", "c", 0, 2),)), ())
        self.assertEqual(harm(LOW, LENDERS, ()), ())
        # What a would use at low comes from low itself; c at up cannot have it.
        basin, rights = parse_basin(
            "site up to low reach 1 flow 3\nsite low flow 2\n"
            "right a at low wants 2\nright b at up wants 3\nright c at up wants 1"
        )
        self.assertEqual(harm(basin, rights, (("a", "c", 0, 1),)), (("b", 0, 3, 2),))
        self.assertEqual(harm(basin, rights, (("a", "c", 0, 2),)), (("b", 0, 3, 1),))
        # whoever lends or borrows is not harmed
        self.assertEqual(harm(basin, rights, (("a", "b", 0, 2),)), ())
        self.assertEqual(harm(basin, rights, (("a", "c", 0, 2), ("c", "b", 0, 1))), ())

    def test_in_order_month_by_month(self):
        basin, rights = parse_basin(
            "site up to low reach 1 flow 6 6\nsite low flow 3 3\nright a at low wants 3 3\nright b at up wants 3 3\n"
            "right d at up wants 3 3\nright c at up wants 1 1"
        )
        self.assertEqual(harm(basin, rights, (("a", "c", 1, 2), ("a", "c", 0, 3))), (("d", 0, 3, 0), ("d", 1, 3, 1)))
        basin, rights = parse_basin(
            "site up to low reach 1 flow 3 4\nsite low flow 4 4\nright a at low wants 4 4\nright b at up wants 2 2\n"
            "right c at up wants 0 0\nright d at up wants 1 2"
        )
        self.assertEqual(harm(basin, rights, (("a", "c", 0, 3), ("a", "c", 1, 4))), (
            ("b", 0, 2, 0), ("b", 1, 2, 0), ("d", 0, 1, 0), ("d", 1, 2, 0),
        ))

    def test_who_gets_more_is_not_harmed(self):
        basin, rights = parse_basin("site up to low flow 2\nsite low flow 0\nright a at up wants 2\nright b at low wants 0\n"
                                    "right c at up wants 0\nright d at up wants 2")
        self.assertEqual(gets(basin, rights, (("a", "b", 0, 1),), "d"), (0,))
        basin, rights = parse_basin("site up to low reach 0 flow 2\nsite low flow 0\nright a at up wants 2\n"
                                    "right b at low wants 0\nright d at up wants 2")
        self.assertEqual(gets(basin, rights, (("a", "b", 0, 1),), "d"), (1,))
        self.assertEqual(harm(basin, rights, (("a", "b", 0, 1),)), ())

    def test_by_luck(self):
        harmed = 0
        for basin, rights, leases in some_leases(92, 800):
            found = harm(basin, rights, leases)
            self.assertEqual(found, harm_by_hand(basin, rights, leases))
            harmed += len(found) > 0
        self.assertGreater(harmed, 20)


class Gets(unittest.TestCase):
    def test_by_hand(self):
        leases = (("a", "c", 0, 2),)
        self.assertEqual(gets(LOW, LENDERS, (), "a"), (4,))
        self.assertEqual(gets(LOW, LENDERS, (), "b"), (1,))
        self.assertEqual(gets(LOW, LENDERS, (), "c"), (0,))
        self.assertEqual(gets(LOW, LENDERS, leases, "a"), (2,))
        self.assertEqual(gets(LOW, LENDERS, leases, "b"), (1,))
        self.assertEqual(gets(LOW, LENDERS, leases, "c"), (2,))

    def test_a_borrower_with_several_leases(self):
        basin, rights = parse_basin("site s flow 9 5\nright a at s wants 4 4\nright b at s wants 3 1\nright c at s wants 1 1")
        leases = (("a", "c", 0, 2), ("b", "c", 0, 1), ("a", "c", 1, 4), ("a", "c", 0, 1))
        self.assertEqual(gets(basin, rights, leases, "a"), (1, 0))
        self.assertEqual(gets(basin, rights, leases, "b"), (2, 1))
        self.assertEqual(gets(basin, rights, leases, "c"), (5, 4))

    def test_a_lender_that_borrows(self):
        basin, rights = parse_basin("site s flow 5\nright a at s wants 3\nright b at s wants 4")
        leases = (("a", "b", 0, 3), ("b", "a", 0, 4))
        self.assertEqual(gets(basin, rights, leases, "a"), (2,))
        self.assertEqual(gets(basin, rights, leases, "b"), (3,))

    def test_by_luck(self):
        for basin, rights, leases in some_leases(93, 100):
            had = had_by_hand(basin, rights, leases)
            for name, _, _ in rights:
                self.assertEqual(gets(basin, rights, leases, name), had[name])

    def test_shape(self):
        self.assertIsInstance(gets(LOW, LENDERS, (("a", "c", 0, 2),), "c"), tuple)
        self.assertIsInstance(harm(LOW, LENDERS, (("a", "c", 0, 2),)), tuple)


class SafeLease(unittest.TestCase):
    def test_by_hand(self):
        self.assertEqual(safe_lease(LOW, LENDERS, "a", "c", 0), 4)
        basin, rights = parse_basin(
            "site up to low reach 1 flow 4\nsite low flow 2\n"
            "right a at low wants 2\nright b at up wants 3\nright c at up wants 0"
        )
        self.assertEqual(safe_lease(basin, rights, "a", "c", 0), 1)
        self.assertEqual(safe_lease(basin, rights, "a", "b", 0), 2)
        self.assertEqual(safe_lease(basin, rights, "b", "c", 0), 3)
        basin, rights = parse_basin(
            "site up to low reach 1 flow 3\nsite low flow 2\n"
            "right a at low wants 2\nright b at up wants 3\nright c at up wants 0"
        )
        self.assertEqual(safe_lease(basin, rights, "a", "c", 0), 0)

    def test_a_lender_that_demands_nothing(self):
        self.assertEqual(safe_lease(WIDE, OWNERS, "last", "old", 0), 0)
        self.assertEqual(safe_lease(WIDE, OWNERS, "last", "old", 1), 1)

    def test_refused(self):
        for lender, borrower, month, why in (
            ("new", "old", 0, "no such right"), ("old", "new", 0, "no such right"), ("new", "new", 9, "no such right"),
            ("old", "old", 0, "same right"), ("old", "old", 9, "same right"), ("last", "last", 0, "same right"),
            ("old", "mid", 2, "no such month"), ("old", "mid", -1, "no such month"), ("last", "mid", 99, "no such month"),
        ):
            with self.subTest((lender, borrower, month)):
                with self.assertRaises(BadChange) as caught:
                    safe_lease(WIDE, OWNERS, lender, borrower, month)
                self.assertEqual(caught.exception.reason, why)

    def test_trying_each_amount(self):
        luck = random.Random(94)
        found = set()
        for basin, rights in crowded_rivers(95, 250):
            lender, borrower = luck.sample([name for name, _, _ in rights], 2)
            month = luck.randrange(basin[0])
            most = [demands[month] for name, _, demands in rights if name == lender][0]
            safe = 0
            while safe < most and not harm_by_hand(basin, rights, ((lender, borrower, month, safe + 1),)):
                safe += 1
            with self.subTest((basin, rights, lender, borrower, month)):
                self.assertEqual(safe_lease(basin, rights, lender, borrower, month), safe)
            found.add("all" if safe == most else "none" if safe == 0 else "some")
        self.assertEqual(found, {"all", "none", "some"})

    def test_harm_ends_it_even_if_a_greater_amount_does_none(self):
        basin, rights = parse_basin(
            "site a to b in 1 reach 1 room 1 flow 3 3 3\nsite b flow 1 1 1\nright w at a wants 0 2 4\n"
            "right x at a wants 1 3 4\nright y at a wants 4 0 0\nright z at b wants 2 4 2"
        )
        harmed = [harm(basin, rights, (("x", "z", 1, amount),)) != () for amount in (1, 2, 3)]
        self.assertEqual(harmed, [False, True, False])
        self.assertEqual(safe_lease(basin, rights, "x", "z", 1), 1)
        basin, rights = parse_basin(
            "site a to c reach 2 room 3 flow 5\nsite b to c reach 2 room 1 flow 2\nsite c flow 1\nright w at b wants 1\n"
            "right x at a wants 3\nright y at a wants 4\nright z at c wants 2"
        )
        harmed = [harm(basin, rights, (("x", "w", 0, amount),)) != () for amount in (1, 2, 3)]
        self.assertEqual(harmed, [True, True, False])
        self.assertEqual(safe_lease(basin, rights, "x", "w", 0), 0)

    def test_each_amount_up_to_it_does_no_harm_and_the_next_one_does(self):
        for basin, rights in crowded_rivers(96, 60):
            for (lender, _, demands), (borrower, _, _) in itertools.permutations(rights, 2):
                for month in range(basin[0]):
                    safe = safe_lease(basin, rights, lender, borrower, month)
                    for amount in range(1, safe + 1):
                        self.assertEqual(harm(basin, rights, ((lender, borrower, month, amount),)), ())
                    if safe < demands[month]:
                        self.assertNotEqual(harm(basin, rights, ((lender, borrower, month, safe + 1),)), ())

    def test_beyond_the_limits(self):
        basin = (5, (("upper", "lower", 3, 500, 3000, 3000, (0,) * 5), ("lower", None, 0, None, 900, 0, (500,) * 5)))
        rights = tuple((f"right{k}", "lower", (90,) * 5) for k in range(5))
        self.assertEqual(safe_lease(basin, rights, "right0", "right4", 4), 90)
        self.assertEqual(gets(basin, rights, (("right0", "right4", 4, 90),), "right4"), (90, 90, 90, 90, 180))
        # a lease of more than 99 is none
        rights = (("right0", "lower", (120,) * 5),) + rights[1:]
        self.assertEqual(safe_lease(basin, rights, "right0", "right4", 0), 99)


if __name__ == "__main__":
    unittest.main()
