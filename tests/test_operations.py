"""o1: of all right plans that give every claim its greatest delivery, the first one."""

import unittest

import oracle
from heldwater.basintext import parse_basin
from heldwater.flows import greatest
from heldwater.operations import operation
from heldwater.plans import gives, plan_fault


class Operations(unittest.TestCase):
    def told(self, text, plan):
        with self.subTest(text):
            basin, rights = parse_basin(text)
            self.assertEqual(operation(basin, rights), plan)

    def test_one_site(self):
        self.told("site s flow 5", ((), ((0,),), ((0,),)))
        self.told("site s room 3 flow 5", ((), ((0,),), ((3,),)))
        self.told("site s room 9 held 4 flow 5 0 0\nright a at s wants 1 0 2",
                  (((1, 0, 2),), ((0, 0, 0),), ((8, 8, 6),)))
        # no more is stored than what is wanted later, and it is stored as late as can be
        self.told("site s room 9 flow 5 5 5\nright a at s wants 0 0 7", (((0, 0, 7),), ((0, 0, 0),), ((4, 9, 7),)))
        self.told("site s room 4 held 4 flow 0 4 0\nright a at s wants 0 0 2",
                  (((0, 0, 2),), ((0, 0, 0),), ((0, 4, 2),)))

    def test_the_last_storages_are_what_rooms_get(self):
        self.told("site up to low room 3 held 3 flow 1\nsite low room 3 flow 1",
                  ((), ((1,), (0,)), ((3,), (2,))))

    def test_late_releases_ahead_of_early_ones(self):
        text = "site up to low room 9 flow 6 0\nsite low room 9 flow 0 0\nright a at low wants 0 4"
        self.told(text, (((0, 4),), ((0, 4), (0, 0)), ((6, 2), (0, 0))))
        # what is let down in month 0 is kept below, where the way of month 1 holds no more
        text = text.replace("to low", "to low reach 3")
        self.told(text, (((0, 4),), ((1, 3), (0, 0)), ((5, 2), (1, 0))))

    def test_releases_are_ahead_of_storages(self):
        text = "site up to low in 1 room 9 flow 3 3 0\nsite low room 2 flow 2 0 0\nright a at low wants 0 0 3"
        self.told(text, (((0, 0, 3),), ((0, 1, 0), (0, 0, 0)), ((3, 5, 5), (2, 2, 0))))

    def test_of_several_sites_the_later_ones_let_down(self):
        text = "site a to c flow 3\nsite b to c flow 3\nsite c flow 0\nright r at c wants 4"
        self.told(text, (((4,),), ((1,), (3,), (0,)), ((0,), (0,), (0,))))

    def test_what_would_arrive_behind_the_last_month_is_not_let_down(self):
        text = "site up to low in 2 flow 5 5 5\nsite low flow 0 0 0\nright a at low wants 9 9 9"
        self.told(text, (((0, 0, 5),), ((5, 0, 0), (0, 0, 0)), ((0, 0, 0), (0, 0, 0))))

    def test_shape(self):
        basin, rights = parse_basin("site s flow 5 1\nright a at s wants 1 2")
        plan = operation(basin, rights)
        parts = [plan, *plan, *[row for part in plan for row in part]]
        self.assertTrue(all(isinstance(part, tuple) for part in parts))
        self.assertEqual(operation(basin, ())[0], ())

    def test_the_first_of_every_right_plan(self):
        for basin, rights, plans in oracle.small_rivers(31, 100):
            with self.subTest((basin, rights)):
                amounts = greatest(basin, rights)
                best = [plan for plan in plans if oracle.given_to_claims(basin, rights, plan) == amounts]
                self.assertEqual(operation(basin, rights), min(best, key=oracle.place_in_line))

    def test_it_is_right_and_gives_the_greatest_deliveries(self):
        for basin, rights in oracle.middle_rivers(32, 60):
            with self.subTest((basin, rights)):
                plan = operation(basin, rights)
                self.assertIsNone(plan_fault(basin, rights, plan))
                self.assertEqual(gives(basin, rights, plan), greatest(basin, rights))

    def test_beyond_the_limits(self):
        basin = (5, (("upper", "lower", 3, None, 3000, 3000, (0,) * 5), ("lower", None, 0, None, 900, 0, (500,) * 5)))
        rights = tuple((f"right{k}", "lower", (200,) * 5) for k in range(5))
        plan = operation(basin, rights)
        self.assertIsNone(plan_fault(basin, rights, plan))
        self.assertEqual(gives(basin, rights, plan), greatest(basin, rights))
        self.assertEqual(plan[1], ((500, 500, 0, 0, 0), (0, 0, 0, 0, 0)))


if __name__ == "__main__":
    unittest.main()
