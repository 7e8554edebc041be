"""k1, k2: where the water of each use of a right plan came from."""

import itertools
import random
import unittest

import odd
import oracle
from heldwater.basins import route
from heldwater.basintext import parse_basin
from heldwater.errors import BadPlan
from heldwater.operations import operation
from heldwater.parcels import parcels
from heldwater.plans import plan_fault, spills


def told_apart(units):
    """A row of parcels from a row of single units, each told by its origin."""
    return tuple((origin, len(list(same))) for origin, same in itertools.groupby(units))


def parcels_by_units(basin, rights, plan):
    """What k1 and k2 tell, one unit of water after the other."""
    months, sites = basin
    deliveries, releases, storages = plan
    waiting = {}
    arriving = {cell: {} for cell in oracle.cells(basin)}
    given = [[()] * months for _ in rights]
    stored = [()] * len(sites)
    spilled, lost = ([[()] * months for _ in sites] for _ in "ab")
    for s, m in oracle.cells(basin):
        name, lower, travel, _, _, held, inflows = sites[s]
        queue = [("held", s)] * held if m == 0 else waiting[s]
        for u in sorted(arriving[s, m]):
            queue = queue + arriving[s, m][u]
        queue = queue + [("in", s, m)] * inflows[m]

        def used(amount):
            front = queue[:amount]
            del queue[:amount]
            return front

        for r, right in enumerate(rights):
            if right[1] == name:
                given[r][m] = told_apart(used(deliveries[r][m]))
        down = used(releases[s][m])
        if lower is None or m + travel >= months:
            lost[s][m] = told_apart(down)
        else:
            arriving[oracle.number_of(basin, lower), m + travel][s] = down
        waiting[s] = used(storages[s][m])
        stored[s] = told_apart(waiting[s])
        spilled[s][m] = told_apart(queue)
    return (
        tuple(tuple(row) for row in given), tuple(stored), tuple(tuple(row) for row in spilled),
        tuple(tuple(row) for row in lost),
    )


def places(found):
    """Each row of parcels with where it is: (kind, number, month or None, row)."""
    deliveries, stored, spilled, lost = found
    for kind, table in (("given", deliveries), ("spilled", spilled), ("lost", lost)):
        for k, rows in enumerate(table):
            for m, row in enumerate(rows):
                yield kind, k, m, row
    for s, row in enumerate(stored):
        yield "stored", s, None, row


def some_plans():
    """Triples (basin, rights, right plan) of many kinds."""
    luck = random.Random(71)
    for basin, rights, plans in oracle.small_rivers(72, 20, 20, 2000):
        for plan in plans[::max(1, len(plans) // 60)]:
            yield basin, rights, plan
    for basin, rights in oracle.middle_rivers(73, 60) + [oracle.random_basin(luck, 4, 4, 40) for _ in range(40)]:
        yield basin, rights, operation(basin, rights)
        for _ in range(8):
            yield basin, rights, oracle.random_plan(luck, basin, rights)


class ByHand(unittest.TestCase):
    def told(self, text, plan, rows):
        """All rows that are not empty are these, each with where it is."""
        with self.subTest((text, plan)):
            basin, rights = parse_basin(text)
            self.assertIsNone(plan_fault(basin, rights, plan))
            found = parcels(basin, rights, plan)
            self.assertEqual({(kind, k, m): row for kind, k, m, row in places(found) if row}, rows)

    def test_held_ahead_of_what_comes_in(self):
        text = "site s room 3 held 3 flow 4\nright a at s wants 9"
        held, comes = ("held", 0), ("in", 0, 0)
        for amount, row, rest in (
            (2, ((held, 2),), ((held, 1), (comes, 4))), (3, ((held, 3),), ((comes, 4),)),
            (4, ((held, 3), (comes, 1)), ((comes, 3),)),
        ):
            self.told(text, (((amount,),), ((0,),), ((0,),)), {("given", 0, 0): row, ("spilled", 0, 0): rest})
        self.told(text, (((0,),), ((0,),), ((0,),)), {("spilled", 0, 0): ((held, 3), (comes, 4))})
        self.told(text, (((7,),), ((0,),), ((0,),)), {("given", 0, 0): ((held, 3), (comes, 4))})

    def test_the_whole_of_it(self):
        basin, rights = parse_basin("site s room 3 flow 0 0\nright a at s wants 9 9")
        nothing = ((), ())
        self.assertEqual(parcels(basin, rights, (((0, 0),), ((0, 0),), ((0, 0),))), ((nothing,), ((),), (nothing,), (nothing,)))
        basin, _ = parse_basin("site up to low flow 3\nsite low room 2 flow 0")
        self.assertEqual(parcels(basin, (), ((), ((2,), (0,)), ((0,), (1,)))), (
            (),
            ((), ((("in", 0, 0), 1),)),
            ((((("in", 0, 0), 1),),), (((("in", 0, 0), 1),),)),
            (((),), ((),)),
        ))

    def test_rights_in_order_then_let_down_then_stored_then_spilled(self):
        text = (
            "site up to low room 9 held 5 flow 5\nsite low flow 0\n"
            "right b at up wants 9\nright x at low wants 9\nright a at up wants 9"
        )
        held, comes = ("held", 0), ("in", 0, 0)
        self.told(text, (((2,), (1,), (2,)), ((3,), (0,)), ((1,), (0,))), {
            ("given", 0, 0): ((held, 2),), ("given", 2, 0): ((held, 2),),
            ("given", 1, 0): ((held, 1),), ("spilled", 1, 0): ((comes, 2),),
            ("stored", 0, None): ((comes, 1),), ("spilled", 0, 0): ((comes, 2),),
        })
        self.told(text, (((4,), (2,), (2,)), ((2,), (0,)), ((1,), (0,))), {
            ("given", 0, 0): ((held, 4),), ("given", 2, 0): ((held, 1), (comes, 1)), ("given", 1, 0): ((comes, 2),),
            ("stored", 0, None): ((comes, 1),), ("spilled", 0, 0): ((comes, 1),),
        })
        self.told(text, (((1,), (0,), (1,)), ((0,), (0,)), ((4,), (0,))), {
            ("given", 0, 0): ((held, 1),), ("given", 2, 0): ((held, 1),),
            ("stored", 0, None): ((held, 3), (comes, 1)), ("spilled", 0, 0): ((comes, 4),),
        })

    def test_stored_then_let_down_by_site_number_then_what_comes_in(self):
        text = (
            "site a to d flow 0 1\nsite b to d in 1 flow 2 0\nsite c to d flow 0 3\n"
            "site d room 9 held 4 flow 5 6\nright r at d wants 0 99"
        )
        plan = (((0, 21),), ((0, 1), (2, 0), (0, 3), (0, 0)), ((0, 0), (0, 0), (0, 0), (9, 0)))
        self.told(text, plan, {("given", 0, 1): (
            (("held", 3), 4), (("in", 3, 0), 5), (("in", 0, 1), 1), (("in", 1, 0), 2), (("in", 2, 1), 3), (("in", 3, 1), 6),
        )})

    def test_stored_water_keeps_its_order(self):
        text = "site s room 9 held 1 flow 2 3 4\nright a at s wants 9 9 9"
        first, second, third, fourth = ("held", 0), ("in", 0, 0), ("in", 0, 1), ("in", 0, 2)
        self.told(text, (((0, 0, 8),), ((0, 0, 0),), ((3, 6, 1),)), {
            ("given", 0, 2): ((first, 1), (second, 2), (third, 3), (fourth, 2)),
            ("stored", 0, None): ((fourth, 1),), ("spilled", 0, 2): ((fourth, 1),),
        })
        self.told(text, (((1, 1, 0),), ((0, 0, 0),), ((2, 4, 5),)), {
            ("given", 0, 0): ((first, 1),), ("given", 0, 1): ((second, 1),),
            ("stored", 0, None): ((second, 1), (third, 3), (fourth, 1)), ("spilled", 0, 2): ((fourth, 3),),
        })

    def test_travel_0_down_several_sites_within_a_month(self):
        text = "site a to b flow 3\nsite b to c flow 2\nsite c to d flow 1\nsite d flow 4\nright r at d wants 10"
        self.told(text, (((9,),), ((3,), (4,), (5,), (0,)), ((0,),) * 4), {
            ("given", 0, 0): ((("in", 0, 0), 3), (("in", 1, 0), 1), (("in", 2, 0), 1), (("in", 3, 0), 4)),
            ("spilled", 1, 0): ((("in", 1, 0), 1),),
        })

    def test_a_parcel_that_is_used_in_parts(self):
        text = "site up to low room 9 flow 9\nsite low room 9 flow 0\nright a at up wants 9\nright b at low wants 9"
        origin = ("in", 0, 0)
        self.told(text, (((1,), (2,)), ((5,), (0,)), ((2,), (2,))), {
            ("given", 0, 0): ((origin, 1),), ("given", 1, 0): ((origin, 2),), ("stored", 0, None): ((origin, 2),),
            ("stored", 1, None): ((origin, 2),), ("spilled", 0, 0): ((origin, 1),), ("spilled", 1, 0): ((origin, 1),),
        })

    def test_parcels_of_one_origin_that_come_to_stand_side_by_side(self):
        # Of the water of month 0, two units come a month early and wait below for the others.
        text = "site up to low in 1 room 9 flow 4 0 0\nsite low room 9 flow 0 {} 1\nright a at low wants 0 0 9"
        origin, last = ("in", 0, 0), ("in", 1, 2)
        self.told(text.format(0), (((0, 0, 5),), ((2, 2, 0), (0, 0, 0)), ((2, 0, 0), (0, 2, 0))), {
            ("given", 0, 2): ((origin, 4), (last, 1)),
        })
        # what comes in below between them keeps them apart
        self.told(text.format(1), (((0, 0, 6),), ((2, 2, 0), (0, 0, 0)), ((2, 0, 0), (0, 3, 0))), {
            ("given", 0, 2): ((origin, 2), (("in", 1, 1), 1), (origin, 2), (last, 1)),
        })
        # until it is used
        self.told(text.format(1).replace("0 0 9", "0 3 9"), (((0, 1, 3),), ((2, 2, 0), (0, 0, 0)), ((2, 0, 0), (0, 1, 0))), {
            ("given", 0, 1): ((origin, 1),), ("spilled", 1, 1): ((("in", 1, 1), 1),),
            ("given", 0, 2): ((origin, 3),), ("spilled", 1, 2): ((last, 1),),
        })

    def test_lost(self):
        text = "site up to low in {} flow 5 6 7\nsite low flow 0 0 0"
        for travel in (0, 1, 2):
            basin, _ = parse_basin(text.format(travel).replace(" in 0", ""))
            plan = ((), ((1, 2, 3), (0, 0, 0)), ((0, 0, 0), (0, 0, 0)))
            _, stored, spilled, lost = parcels(basin, (), plan)
            rows = tuple(((("in", 0, m), m + 1),) for m in range(3))
            late = 3 - travel
            self.assertEqual(lost, (((),) * late + rows[late:], ((),) * 3))
            self.assertEqual(spilled[1], ((),) * travel + rows[:late])
            self.assertEqual(spilled[0], tuple(((("in", 0, m), 4),) for m in range(3)))
            self.assertEqual(stored, ((), ()))

    def test_a_plan_that_keeps_water_that_older_rights_lack(self):
        origin = ("in", 0, 0)
        self.told("site s room 5 flow 5\nright a at s wants 5\nright b at s wants 5", (((0,), (1,)), ((0,),), ((3,),)), {
            ("given", 1, 0): ((origin, 1),), ("stored", 0, None): ((origin, 3),), ("spilled", 0, 0): ((origin, 1),),
        })


class Refused(unittest.TestCase):
    def test_plans_that_are_not_right(self):
        basin, rights = parse_basin(
            "site dale to mouth reach 5 room 4 held 1 flow 6 1\nsite mouth room 2 flow 2 0\n"
            "right mill at mouth wants 3 4\nright farm at dale wants 3 2"
        )
        nothing = (((0, 0), (0, 0)), ((0, 0), (0, 0)), ((0, 0), (0, 0)))
        self.assertEqual(parcels(basin, rights, nothing)[0], (((), ()), ((), ())))
        for path, amount in (
            ((0, 0, 0), 4), ((0, 1, 1), 3), ((1, 0, 0), 6), ((1, 1, 0), 1), ((2, 0, 0), 5), ((2, 1, 1), 3),
            ((1, 0, 1), 2), ((0, 0, 1), 1),
        ):
            with self.subTest((path, amount)):
                with self.assertRaises(BadPlan) as caught:
                    parcels(basin, rights, odd.put(nothing, path, amount))
                self.assertEqual(caught.exception.reason, "not right")


class Rows(unittest.TestCase):
    def test_unit_by_unit(self):
        for basin, rights, plan in some_plans():
            self.assertIsNone(plan_fault(basin, rights, plan))
            self.assertEqual(parcels(basin, rights, plan), parcels_by_units(basin, rights, plan), (basin, rights, plan))

    def test_each_row_holds_what_the_plan_has_there(self):
        for basin, rights, plan in some_plans():
            found = parcels(basin, rights, plan)
            months, sites = basin
            self.assertEqual([len(part) for part in found], [len(rights)] + [len(sites)] * 3)
            spilled = spills(basin, rights, plan)
            for kind, k, m, row in places(found):
                if kind == "stored":
                    amount = plan[2][k][-1]
                elif kind == "lost":
                    amount = plan[1][k][m] if m + sites[k][2] >= months else 0
                else:
                    amount = (plan[0] if kind == "given" else spilled)[k][m]
                self.assertEqual(sum(many for _, many in row), amount)

    def test_no_parcel_of_0_and_no_neighbours_of_one_origin(self):
        apart = 0
        for basin, rights, plan in some_plans():
            for _, _, _, row in places(parcels(basin, rights, plan)):
                self.assertTrue(all(many >= 1 for _, many in row))
                origins = [origin for origin, _ in row]
                self.assertTrue(all(one != other for one, other in zip(origins, origins[1:])))
                apart += len(origins) > len(set(origins))
        # one origin may stand in a row twice
        self.assertGreater(apart, 0)

    def test_only_origins_from_upstream_that_can_have_come_by_then(self):
        for basin, rights, plan in some_plans():
            months, sites = basin
            delays = [dict(route(basin, site[0])) for site in sites]
            for kind, k, m, row in places(parcels(basin, rights, plan)):
                name = rights[k][1] if kind == "given" else sites[k][0]
                by = months - 1 if m is None else m
                for (what, s, *month), _ in row:
                    self.assertIn(name, delays[s])
                    self.assertEqual((what, len(month)), ("in", 1) if month else ("held", 0))
                    self.assertLessEqual((month[0] if month else 0) + delays[s][name], by)

    def test_the_amounts_of_each_origin_add_up_to_what_there_is(self):
        for basin, rights, plan in some_plans():
            totals = {}
            for _, _, _, row in places(parcels(basin, rights, plan)):
                for origin, many in row:
                    totals[origin] = totals.get(origin, 0) + many
            there = {("held", s): site[5] for s, site in enumerate(basin[1])}
            there.update({("in", s, m): basin[1][s][6][m] for s, m in oracle.cells(basin)})
            self.assertEqual(totals, {origin: amount for origin, amount in there.items() if amount})

    def test_cutting_off_the_last_months_leaves_the_others(self):
        for basin, rights, plan in some_plans():
            months, sites = basin
            found = parcels(basin, rights, plan)
            for left in range(1, months):
                shorter = (left, tuple(site[:6] + (site[6][:left],) for site in sites))
                owners = tuple((name, place, demands[:left]) for name, place, demands in rights)
                rows = parcels(shorter, owners, tuple(tuple(row[:left] for row in part) for part in plan))
                self.assertEqual(rows[0], tuple(row[:left] for row in found[0]))
                self.assertEqual(rows[2], tuple(row[:left] for row in found[2]))

    def test_all_kinds_of_plans_are_tried(self):
        kinds = {"given": 0, "spilled": 0, "lost": 0, "stored": 0}
        for basin, rights, plan in some_plans():
            for kind, _, _, row in places(parcels(basin, rights, plan)):
                kinds[kind] += len(row) > 1
        self.assertTrue(all(many > 50 for many in kinds.values()), kinds)

    def test_shape(self):
        basin, rights = parse_basin("site up to low in 1 room 3 held 3 flow 4 1\nsite low flow 1 1\nright a at low wants 2 2")
        plan = (((1, 2),), ((2, 1), (0, 0)), ((3, 1), (0, 0)))
        for _, part in odd.with_parts(parcels(basin, rights, plan)):
            self.assertIsInstance(part, (tuple, str, int))

    def test_beyond_the_limits(self):
        basin = (5, (("upper", "lower", 3, 500, 3000, 3000, (0,) * 5), ("lower", None, 0, None, 900, 0, (500,) * 5)))
        rights = tuple((f"right{k}", "lower", (200,) * 5) for k in range(5))
        plan = operation(basin, rights)
        self.assertEqual(parcels(basin, rights, plan), parcels_by_units(basin, rights, plan))


if __name__ == "__main__":
    unittest.main()
