"""b3 and c5: routes, sites upstream, claims, their cells and sizes."""

import unittest

from heldwater.basins import claim_cell, claim_size, claims, route, site_number, upstream

# Two arms that meet at c: a goes straight to c, b too; the travels add up to the outlet.
ARMS = (2, (
    ("a", "c", 1, 5, 3, 1, (4, 0)),
    ("b", "c", 0, None, 7, 0, (2, 2)),
    ("c", "d", 2, 9, 0, 0, (0, 1)),
    ("d", None, 0, None, 6, 2, (1, 1)),
))

# A row with one arm that passes b over.
ROW = (1, (
    ("a", "b", 2, None, 0, 0, (1,)),
    ("b", "d", 2, None, 0, 0, (1,)),
    ("c", "d", 0, None, 0, 0, (1,)),
    ("d", None, 0, None, 0, 0, (1,)),
))

LAKE = (1, (("lake", None, 0, None, 8, 3, (5,)),))


class SiteNumbers(unittest.TestCase):
    def test_each_site(self):
        for s, name in enumerate("abcd"):
            with self.subTest(name):
                self.assertEqual(site_number(ARMS, name), s)

    def test_no_such_site(self):
        self.assertIsNone(site_number(ARMS, "e"))
        self.assertIsNone(site_number(LAKE, "a"))
        self.assertIsNone(site_number(LAKE, "lak"))


class Routes(unittest.TestCase):
    def test_travels_add_up(self):
        self.assertEqual(route(ARMS, "a"), (("a", 0), ("c", 1), ("d", 3)))
        self.assertEqual(route(ARMS, "b"), (("b", 0), ("c", 0), ("d", 2)))
        self.assertEqual(route(ARMS, "c"), (("c", 0), ("d", 2)))
        self.assertEqual(route(ROW, "a"), (("a", 0), ("b", 2), ("d", 4)))
        self.assertEqual(route(ROW, "c"), (("c", 0), ("d", 0)))

    def test_of_the_outlet(self):
        self.assertEqual(route(ARMS, "d"), (("d", 0),))
        self.assertEqual(route(LAKE, "lake"), (("lake", 0),))

    def test_shape(self):
        found = route(ARMS, "a")
        self.assertIsInstance(found, tuple)
        self.assertTrue(all(isinstance(pair, tuple) for pair in found))

    def test_of_five_sites(self):
        sites = [(name, lower, 1, None, 0, 0, (0,)) for name, lower in zip("abcd", "bcde")]
        sites.append(("e", None, 0, None, 0, 0, (0,)))
        self.assertEqual(route((1, tuple(sites)), "a")[-1], ("e", 4))


class Upstream(unittest.TestCase):
    def test_sites_that_lead_to_one(self):
        self.assertEqual(upstream(ARMS, "c"), ("a", "b", "c"))
        self.assertEqual(upstream(ARMS, "d"), ("a", "b", "c", "d"))

    def test_a_site_is_upstream_of_itself(self):
        self.assertEqual(upstream(ARMS, "a"), ("a",))
        self.assertEqual(upstream(ARMS, "b"), ("b",))
        self.assertEqual(upstream(LAKE, "lake"), ("lake",))

    def test_a_site_beside_the_route_is_not(self):
        self.assertEqual(upstream(ROW, "b"), ("a", "b"))
        self.assertEqual(upstream(ROW, "c"), ("c",))
        self.assertEqual(upstream(ROW, "d"), ("a", "b", "c", "d"))

    def test_shape(self):
        self.assertIsInstance(upstream(ARMS, "d"), tuple)


class Claims(unittest.TestCase):
    rights = (("x", "d", (5, 6)), ("y", "a", (0, 7)))

    def test_order(self):
        self.assertEqual(claims(ARMS, self.rights), (
            ("right", 0, 0), ("right", 0, 1), ("right", 1, 0), ("right", 1, 1),
            ("room", 0), ("room", 1), ("room", 2), ("room", 3),
        ))

    def test_without_rights(self):
        self.assertEqual(claims(ARMS, ()), (("room", 0), ("room", 1), ("room", 2), ("room", 3)))

    def test_one_month(self):
        self.assertEqual(
            claims(LAKE, (("x", "lake", (1,)), ("y", "lake", (2,)))),
            (("right", 0, 0), ("right", 1, 0), ("room", 0)),
        )

    def test_four_months_and_rights(self):
        basin = (4, (("s", None, 0, None, 1, 0, (0, 0, 0, 0)),))
        rights = tuple((name, "s", (1, 2, 3, 4)) for name in "abcd")
        expected = tuple(("right", r, m) for r in range(4) for m in range(4)) + (("room", 0),)
        self.assertEqual(claims(basin, rights), expected)

    def test_cells(self):
        found = [claim_cell(ARMS, self.rights, claim) for claim in claims(ARMS, self.rights)]
        self.assertEqual(found, [(3, 0), (3, 1), (0, 0), (0, 1), (0, 1), (1, 1), (2, 1), (3, 1)])
        self.assertEqual(claim_cell(LAKE, (), ("room", 0)), (0, 0))

    def test_sizes(self):
        found = [claim_size(ARMS, self.rights, claim) for claim in claims(ARMS, self.rights)]
        self.assertEqual(found, [5, 6, 0, 7, 3, 7, 0, 6])

    def test_beyond_the_limits(self):
        rights = tuple(("n" * 9, "lake", (200 + r,)) for r in range(6))
        self.assertEqual(len(claims(LAKE, rights)), 7)
        self.assertEqual(claim_size(LAKE, rights, ("right", 5, 0)), 205)


if __name__ == "__main__":
    unittest.main()
