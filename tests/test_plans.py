"""c4, p1 to p3 and g1's "gives": what cells receive, faults of plans, spills, what claims are given."""

import itertools
import unittest

import oracle
from heldwater.errors import BadPlan
from heldwater.plans import gives, plan_fault, received, spills

# Sites that lead to one, after 0, 1 and 2 months, in 4 months. All numbers unlike.
MEET = (4, (
    ("a", "d", 0, None, 90, 5, (1, 2, 3, 4)),
    ("b", "d", 1, None, 90, 6, (10, 20, 30, 40)),
    ("c", "d", 2, None, 90, 7, (11, 22, 33, 44)),
    ("d", None, 0, None, 90, 8, (50, 60, 70, 80)),
))
MEET_PLAN = (
    (),
    ((1000, 1001, 1002, 1003), (2000, 2010, 2020, 2030), (3000, 3100, 3200, 3300), (0, 0, 0, 0)),
    ((100, 200, 300, 400), (110, 210, 310, 410), (120, 220, 320, 420), (130, 230, 330, 430)),
)

# A dam over a mouth, and two rights.
DALE = (2, (("dale", "mouth", 0, 5, 4, 1, (6, 1)), ("mouth", None, 0, None, 2, 0, (2, 0))))
RIGHTS = (("mill", "mouth", (3, 4)), ("farm", "dale", (3, 2)))
NOTHING = (((0, 0), (0, 0)), ((0, 0), (0, 0)), ((0, 0), (0, 0)))


def changed(plan, *changes):
    """The plan with other numbers: (part, row, month, number)."""
    rows = [[list(row) for row in part] for part in plan]
    for part, row, month, amount in changes:
        rows[part][row][month] = amount
    return tuple(tuple(tuple(row) for row in part) for part in rows)


class Received(unittest.TestCase):
    def test_held_in_month_0_alone(self):
        self.assertEqual(received(MEET, MEET_PLAN, (0, 0)), 1 + 5)
        self.assertEqual(received(MEET, MEET_PLAN, (1, 0)), 10 + 6)
        self.assertEqual(received(MEET, MEET_PLAN, (2, 0)), 11 + 7)

    def test_what_was_stored_at_the_end_of_the_month_ahead(self):
        self.assertEqual(received(MEET, MEET_PLAN, (0, 1)), 2 + 100)
        self.assertEqual(received(MEET, MEET_PLAN, (1, 2)), 30 + 210)
        self.assertEqual(received(MEET, MEET_PLAN, (2, 3)), 44 + 320)

    def test_what_arrives_from_several_sites(self):
        self.assertEqual(received(MEET, MEET_PLAN, (3, 0)), 50 + 8 + 1000)
        self.assertEqual(received(MEET, MEET_PLAN, (3, 1)), 60 + 130 + 1001 + 2000)
        self.assertEqual(received(MEET, MEET_PLAN, (3, 2)), 70 + 230 + 1002 + 2010 + 3000)
        self.assertEqual(received(MEET, MEET_PLAN, (3, 3)), 80 + 330 + 1003 + 2020 + 3100)

    def test_only_the_next_site_receives(self):
        basin = (1, (("a", "c", 0, None, 0, 0, (1,)), ("b", "c", 0, None, 0, 0, (2,)),
                     ("c", None, 0, None, 0, 0, (4,))))
        plan = ((), ((10,), (20,), (40,)), ((0,), (0,), (0,)))
        self.assertEqual([received(basin, plan, (s, 0)) for s in range(3)], [1, 2, 34])

    def test_what_arrives_behind_the_last_month_is_lost(self):
        basin = (2, (("a", "b", 1, None, 0, 0, (5, 5)), ("b", None, 0, None, 0, 0, (0, 0))))
        plan = ((), ((3, 4), (0, 0)), ((0, 0), (0, 0)))
        self.assertEqual([received(basin, plan, (1, m)) for m in range(2)], [0, 3])
        self.assertIsNone(plan_fault(basin, (), plan))
        self.assertEqual(spills(basin, (), plan), ((2, 1), (0, 3)))


class Faults(unittest.TestCase):
    def test_right_plans(self):
        for plan in (
            NOTHING,
            (((3, 4), (2, 0)), ((1, 4), (0, 0)), ((3, 0), (0, 0))),
            (((3, 4), (3, 0)), ((1, 4), (0, 0)), ((3, 0), (0, 0))),
            # each at its bound
            (((0, 0), (0, 0)), ((5, 0), (0, 0)), ((2, 3), (2, 2))),
            (((2, 0), (0, 2)), ((0, 0), (0, 0)), ((4, 3), (0, 0))),
        ):
            with self.subTest(plan):
                self.assertIsNone(plan_fault(DALE, RIGHTS, plan))

    def test_too_much(self):
        for r, m, amount in ((0, 0, 4), (0, 1, 5), (1, 0, 4), (1, 1, 3)):
            plan = changed(NOTHING, (0, r, m, amount))
            with self.subTest(plan):
                self.assertEqual(plan_fault(DALE, RIGHTS, plan), ("too much", r, m))
        self.assertIsNone(plan_fault(DALE, RIGHTS, changed(NOTHING, (0, 1, 0, 3))))

    def test_release(self):
        for m in (0, 1):
            plan = changed(NOTHING, (1, 0, m, 6))
            self.assertEqual(plan_fault(DALE, RIGHTS, plan), ("release", 0, m))
        self.assertIsNone(plan_fault(DALE, RIGHTS, changed(NOTHING, (1, 0, 0, 5))))

    def test_a_reach_of_0_and_none(self):
        for reach, fault in ((0, ("release", 0, 0)), (None, None)):
            basin = (1, (("a", "b", 0, reach, 0, 0, (99,)), ("b", None, 0, None, 0, 0, (0,))))
            self.assertEqual(plan_fault(basin, (), ((), ((99,), (0,)), ((0,), (0,)))), fault)
            self.assertIsNone(plan_fault(basin, (), ((), ((0,), (0,)), ((0,), (0,)))))

    def test_the_outlet_lets_nothing_down(self):
        for m in (0, 1):
            plan = changed(NOTHING, (1, 1, m, 1))
            self.assertEqual(plan_fault(DALE, RIGHTS, plan), ("release", 1, m))
        self.assertEqual(plan_fault((1, (("s", None, 0, None, 0, 0, (9,)),)), (), ((), ((1,),), ((0,),))),
                         ("release", 0, 0))

    def test_storage(self):
        self.assertEqual(plan_fault(DALE, RIGHTS, changed(NOTHING, (2, 0, 0, 5))), ("storage", 0, 0))
        self.assertEqual(plan_fault(DALE, RIGHTS, changed(NOTHING, (2, 1, 0, 3))), ("storage", 1, 0))
        self.assertEqual(plan_fault(DALE, RIGHTS, changed(NOTHING, (2, 0, 1, 5))), ("storage", 0, 1))
        self.assertIsNone(plan_fault(DALE, RIGHTS, changed(NOTHING, (2, 0, 0, 4))))
        self.assertIsNone(plan_fault(DALE, RIGHTS, changed(NOTHING, (2, 1, 0, 2))))

    def test_balance(self):
        # The dale receives 7 and 1, the mouth 2 and 0, and what else comes by the plan.
        cases = (
            (((1, 0, 0, 4), (2, 0, 0, 4)), ("balance", 0, 0)),
            (((1, 0, 0, 4), (2, 0, 0, 1), (0, 1, 0, 3)), ("balance", 0, 0)),
            (((1, 0, 0, 4), (2, 0, 0, 1), (0, 1, 0, 2)), None),
            (((0, 0, 0, 3),), ("balance", 1, 0)),
            (((0, 0, 0, 3), (1, 0, 0, 1)), None),
            (((0, 0, 0, 1), (2, 1, 0, 2)), ("balance", 1, 0)),
            (((1, 0, 1, 2),), ("balance", 0, 1)),
            (((1, 0, 1, 2), (2, 0, 0, 1)), None),
            (((0, 1, 1, 2),), ("balance", 0, 1)),
            (((2, 0, 1, 2),), ("balance", 0, 1)),
            (((2, 1, 1, 1),), ("balance", 1, 1)),
            (((0, 0, 1, 1),), ("balance", 1, 1)),
            (((0, 0, 1, 1), (2, 1, 0, 1)), None),
        )
        for changes, fault in cases:
            with self.subTest(changes):
                self.assertEqual(plan_fault(DALE, RIGHTS, changed(NOTHING, *changes)), fault)

    def test_the_first_of_two(self):
        # In the order of p3; each is a fault whatever stands beside it.
        faults = (
            ("too much", 0, 0, (0, 0, 0, 40)), ("too much", 1, 0, (0, 1, 0, 40)),
            ("release", 0, 0, (1, 0, 0, 40)), ("storage", 0, 0, (2, 0, 0, 40)),
            ("release", 1, 0, (1, 1, 0, 400)), ("storage", 1, 0, (2, 1, 0, 400)),
            ("too much", 0, 1, (0, 0, 1, 400)), ("too much", 1, 1, (0, 1, 1, 400)),
            ("release", 0, 1, (1, 0, 1, 4000)), ("storage", 0, 1, (2, 0, 1, 4000)),
            ("release", 1, 1, (1, 1, 1, 9000)), ("storage", 1, 1, (2, 1, 1, 9000)),
        )
        for one, other in itertools.combinations(faults, 2):
            with self.subTest((one, other)):
                plan = changed(NOTHING, one[3], other[3])
                self.assertEqual(plan_fault(DALE, RIGHTS, plan), one[:3])

    def test_balance_in_its_order(self):
        cases = (
            # of the dale in month 0, behind its storage, ahead of the mouth's release and of month 1
            (((2, 0, 0, 5), (1, 0, 0, 4)), ("storage", 0, 0)),
            (((2, 0, 0, 4), (1, 0, 0, 4), (1, 1, 0, 1)), ("balance", 0, 0)),
            (((2, 0, 0, 4), (1, 0, 0, 4), (0, 0, 1, 9)), ("balance", 0, 0)),
            # of the mouth in month 0, ahead of the rights in month 1
            (((2, 1, 0, 2), (0, 0, 0, 1), (0, 0, 1, 9)), ("balance", 1, 0)),
            (((1, 0, 1, 2), (1, 1, 1, 1)), ("balance", 0, 1)),
            (((1, 0, 1, 2), (0, 1, 1, 3)), ("too much", 1, 1)),
        )
        for changes, fault in cases:
            with self.subTest(changes):
                self.assertEqual(plan_fault(DALE, RIGHTS, changed(NOTHING, *changes)), fault)

    def test_every_small_plan(self):
        basin = (2, (("a", "b", 0, 1, 1, 1, (1, 0)), ("b", None, 0, None, 1, 0, (0, 1))))
        rights = (("r", "b", (1, 1)),)
        right = set(oracle.right_plans(basin, rights))
        found = set()
        for numbers in itertools.product(range(3), repeat=10):
            rows = [numbers[k:k + 2] for k in range(0, 10, 2)]
            plan = ((rows[0],), (rows[1], rows[2]), (rows[3], rows[4]))
            if plan_fault(basin, rights, plan) is None:
                found.add(plan)
        self.assertEqual(found, right)


class Spills(unittest.TestCase):
    def test_of_right_plans(self):
        self.assertEqual(spills(DALE, RIGHTS, NOTHING), ((7, 1), (2, 0)))
        self.assertEqual(spills(DALE, RIGHTS, (((3, 4), (3, 0)), ((1, 4), (0, 0)), ((3, 0), (0, 0)))),
                         ((0, 0), (0, 0)))
        self.assertEqual(spills(DALE, RIGHTS, (((0, 0), (1, 0)), ((3, 0), (0, 0)), ((2, 3), (2, 1)))),
                         ((1, 0), (3, 1)))
        self.assertEqual(spills(DALE, (), ((),) + NOTHING[1:]), ((7, 1), (2, 0)))

    def test_of_others(self):
        for change in ((0, 0, 0, 4), (1, 0, 0, 6), (1, 1, 0, 1), (2, 0, 0, 5), (1, 0, 1, 2)):
            with self.subTest(change), self.assertRaises(BadPlan) as caught:
                spills(DALE, RIGHTS, changed(NOTHING, change))
            self.assertEqual(caught.exception.reason, "not right")

    def test_what_comes_in_is_what_goes_out(self):
        for basin, rights, plans in oracle.small_rivers(5, 12, 50, 800):
            months, sites = basin
            all_water = sum(site[5] + sum(site[6]) for site in sites)
            for plan in plans:
                self.assertIsNone(plan_fault(basin, rights, plan))
                rows = spills(basin, rights, plan)
                lost = sum(
                    sum(plan[1][s][max(0, months - site[2]):]) for s, site in enumerate(sites) if site[1] is not None
                )
                given = sum(sum(row) for row in plan[0])
                kept = sum(row[-1] for row in plan[2])
                self.assertEqual(sum(sum(row) for row in rows) + lost + given + kept, all_water)
                self.assertTrue(all(amount >= 0 for row in rows for amount in row))

    def test_shape(self):
        rows = spills(DALE, RIGHTS, NOTHING)
        self.assertTrue(isinstance(rows, tuple) and all(isinstance(row, tuple) for row in rows))


class Gives(unittest.TestCase):
    def test_deliveries_and_last_storages(self):
        plan = (((1, 2), (3, 4)), ((5, 6), (7, 8)), ((9, 10), (11, 12)))
        self.assertEqual(gives(DALE, RIGHTS, plan), (1, 2, 3, 4, 10, 12))
        self.assertEqual(gives(DALE, (), ((),) + plan[1:]), (10, 12))

    def test_one_month(self):
        basin = (1, (("s", None, 0, None, 9, 0, (9,)),))
        self.assertEqual(gives(basin, (("r", "s", (3,)),), (((2,),), ((0,),), ((5,),))), (2, 5))


if __name__ == "__main__":
    unittest.main()
