"""q1 to q3: faults of certificates, what one without a fault shows, the one that is made, bounds."""

import itertools
import unittest

import odd
import oracle
from heldwater.basins import claims
from heldwater.basintext import parse_basin
from heldwater.flows import greatest, short_claims
from heldwater.operations import operation
from heldwater.papers import bound_of, certificate_fault, make_certificate
from heldwater.regions import reason

# Two short claims of the farm, and one of the dale's room.
BASIN, RIGHTS = parse_basin(
    "site dale to mouth room 4 flow 6 1\nsite mouth flow 2 0\n"
    "right mill at mouth wants 3 4\nright farm at dale wants 3 2"
)
PLAN = (((3, 4), (2, 0)), ((1, 4), (0, 0)), ((3, 0), (0, 0)))
ALL = ((0, 0), (1, 0), (0, 1), (1, 1))
REGIONS = (ALL, ALL, ALL)

# Seven short claims, with reasons of one cell, of five, and of all.
HILLS, HERDS = parse_basin(
    "site up to low in 1 reach 3 room 4 flow 5 0 1\nsite low room 1 flow 0 1 0\n"
    "right a at low wants 1 3 4\nright b at up wants 2 4 2"
)


class Form(unittest.TestCase):
    def refused(self, certificate):
        with self.subTest(repr(certificate)):
            self.assertEqual(certificate_fault(BASIN, RIGHTS, certificate), ("form",))

    def test_what_is_no_pair(self):
        for thing in odd.ODD_THINGS + (None, 0, 5, (), (PLAN,), (PLAN, REGIONS, ()), [PLAN, REGIONS], PLAN, REGIONS,
                                       {0: PLAN, 1: REGIONS}, (REGIONS, PLAN), (None, None)):
            self.refused(thing)

    def test_regions_that_are_no_tuple(self):
        for thing in odd.ODD_THINGS + (None, 0, 3, list(REGIONS), {0: ALL}):
            self.refused((PLAN, thing))

    def test_other_things_at_each_place_of_the_plan(self):
        places = [path for path, _ in odd.with_parts(PLAN)]
        self.assertEqual(len(places), 1 + 3 + 6 + 12)
        for path in places:
            for thing in odd.ODD_THINGS + (None, (), (None,), ((),), (1,) * 5):
                self.refused((odd.put(PLAN, path, thing), REGIONS))

    def test_lists_in_the_place_of_tuples(self):
        for path, part in odd.with_parts(PLAN):
            if isinstance(part, tuple):
                self.refused((odd.put(PLAN, path, list(part)), REGIONS))

    def test_numbers_in_the_place_of_tuples_and_the_other_way_round(self):
        for path, part in odd.with_parts(PLAN):
            self.refused((odd.put(PLAN, path, 0 if isinstance(part, tuple) else (part,)), REGIONS))

    def test_one_part_too_few_and_too_many(self):
        for path, part in odd.with_parts(PLAN):
            if isinstance(part, tuple):
                self.refused((odd.put(PLAN, path, part[:-1]), REGIONS))
                self.refused((odd.put(PLAN, path, part[1:]), REGIONS))
                self.refused((odd.put(PLAN, path, part + part[:1]), REGIONS))

    def test_another_number_of_rights_sites_or_months(self):
        less = parse_basin("site mouth flow 2 0\nright mill at mouth wants 3 4\nright farm at mouth wants 3 2")
        short = parse_basin("site dale to mouth flow 6\nsite mouth flow 2\nright a at dale wants 1\nright b at dale wants 1")
        for basin, rights in ((BASIN, RIGHTS[:1]), (BASIN, ()), (BASIN, RIGHTS + (("new", "dale", (0, 0)),)), less, short):
            self.assertEqual(certificate_fault(basin, rights, (PLAN, REGIONS)), ("form",))

    def test_no_right_at_all(self):
        basin = parse_basin("site s room 2 flow 1")[0]
        self.assertIsNone(certificate_fault(basin, (), (((), ((0,),), ((1,),)), (((0, 0),),))))
        for part in (None, [], ((),), ((0,),)):
            self.assertEqual(certificate_fault(basin, (), ((part, ((0,),), ((1,),)), (((0, 0),),))), ("form",))

    def test_ahead_of_all_else(self):
        wrong = odd.put(PLAN, (0, 0, 0), 40)
        self.refused((odd.put(wrong, (2, 1, 1), -1), ()))
        self.refused((wrong, []))
        self.refused((wrong, None))
        self.refused((odd.put(PLAN, (2, 1, 1), -1), (ALL,)))


class PlanFaults(unittest.TestCase):
    # A change of the plan, and the fault that it makes.
    changes = (
        (((0, 0, 0), 4), ("too much", 0, 0)), (((0, 1, 0), 4), ("too much", 1, 0)), (((1, 1, 0), 1), ("release", 1, 0)),
        (((2, 0, 0), 5), ("storage", 0, 0)), (((2, 1, 0), 1), ("storage", 1, 0)),
        (((2, 0, 0), 4), ("balance", 0, 0)), (((1, 0, 0), 0), ("balance", 1, 0)),
        (((0, 0, 1), 5), ("too much", 0, 1)), (((0, 1, 1), 3), ("too much", 1, 1)), (((1, 1, 1), 1), ("release", 1, 1)),
        (((2, 0, 1), 5), ("storage", 0, 1)), (((0, 1, 1), 1), ("balance", 0, 1)), (((2, 0, 1), 1), ("balance", 0, 1)),
        (((1, 0, 1), 3), ("balance", 1, 1)),
    )

    def test_each(self):
        for (path, amount), fault in self.changes:
            plan = odd.put(PLAN, path, amount)
            # whatever the regions are
            for regions in (REGIONS, (), (ALL,), (None,) * 3, (None,), ((),) * 9):
                with self.subTest((path, amount, regions)):
                    self.assertEqual(certificate_fault(BASIN, RIGHTS, (plan, regions)), fault)

    def test_a_reach(self):
        basin = oracle.with_room(BASIN, "dale", 9)
        basin = (2, (basin[1][0][:3] + (3,) + basin[1][0][4:], basin[1][1]))
        self.assertEqual(certificate_fault(basin, RIGHTS, (PLAN, REGIONS)), ("release", 0, 1))

    def test_the_first_of_two(self):
        plan = odd.put(odd.put(PLAN, (0, 1, 1), 9), (2, 1, 0), 9)
        self.assertEqual(certificate_fault(BASIN, RIGHTS, (plan, REGIONS)), ("storage", 1, 0))
        plan = odd.put(odd.put(PLAN, (0, 1, 0), 9), (0, 0, 0), 9)
        self.assertEqual(certificate_fault(BASIN, RIGHTS, (plan, REGIONS)), ("too much", 0, 0))


class HowManyRegions(unittest.TestCase):
    def test_none(self):
        self.assertIsNone(certificate_fault(BASIN, RIGHTS, (PLAN, REGIONS)))

    def test_too_few_and_too_many(self):
        for many in (0, 1, 2, 4, 5, 20):
            self.assertEqual(certificate_fault(BASIN, RIGHTS, (PLAN, (ALL,) * many)), ("regions",))

    def test_ahead_of_what_they_are(self):
        for region in odd.ODD_THINGS + (None, (), ((1, 1),)):
            for many in (1, 2, 4):
                self.assertEqual(certificate_fault(BASIN, RIGHTS, (PLAN, (region,) * many)), ("regions",))

    def test_a_plan_that_gives_all_needs_none(self):
        basin, rights = parse_basin("site s room 2 flow 5\nright a at s wants 3")
        plan = (((3,),), ((0,),), ((2,),))
        self.assertIsNone(certificate_fault(basin, rights, (plan, ())))
        self.assertEqual(certificate_fault(basin, rights, (plan, (((0, 0),),))), ("regions",))

    def test_it_goes_by_what_the_plan_gives(self):
        # Nothing is short here, but this plan gives two claims less.
        basin, rights = parse_basin("site s room 2 flow 5\nright a at s wants 3")
        plan = (((1,),), ((0,),), ((0,),))
        for many in (0, 1, 3):
            self.assertEqual(certificate_fault(basin, rights, (plan, (((0, 0),),) * many)), ("regions",))
        self.assertEqual(certificate_fault(basin, rights, (plan, (((0, 0),),) * 2)), ("region", 0))


class Region(unittest.TestCase):
    def refused(self, region):
        for k in range(3):
            regions = REGIONS[:k] + (region,) + REGIONS[k + 1:]
            with self.subTest((k, repr(region))):
                self.assertEqual(certificate_fault(BASIN, RIGHTS, (PLAN, regions)), ("region", k))
        # the first of several
        self.assertEqual(certificate_fault(BASIN, RIGHTS, (PLAN, (ALL, region, region))), ("region", 1))
        self.assertEqual(certificate_fault(BASIN, RIGHTS, (PLAN, (region, None, region))), ("region", 0))

    def test_things_of_other_kinds(self):
        for thing in odd.ODD_THINGS + (None, 0, 1, (), list(ALL), [list(cell) for cell in ALL], {0: ALL}, (ALL,)):
            self.refused(thing)

    def test_cells_that_are_none(self):
        for k in range(4):
            for thing in odd.ODD_THINGS + (None, 0, (), (0,), (0, 0, 0), [0, 0]):
                self.refused(odd.put(ALL, (k,), thing))
            for thing in odd.ODD_THINGS + (None, (), (0,), 2, 9, 10 ** 30):
                self.refused(odd.put(ALL, (k, 0), thing))
                self.refused(odd.put(ALL, (k, 1), thing))

    def test_true_in_the_place_of_1_in_each_cell(self):
        for k, (s, m) in enumerate(ALL):
            self.refused(odd.put(ALL, (k,), (bool(s), m)))
            self.refused(odd.put(ALL, (k,), (s, bool(m))))

    def test_other_orders(self):
        for cells in itertools.permutations(ALL):
            if cells != ALL:
                self.refused(cells)

    def test_a_cell_twice(self):
        for k in range(4):
            self.refused(ALL[:k + 1] + ALL[k:])
            self.refused(ALL + ALL[k:k + 1])

    def test_cells_that_are_not_there(self):
        for cell in ((2, 0), (0, 2), (2, 2), (-1, 0), (0, -1)):
            self.refused((cell,))
            self.refused(ALL + (cell,))
            self.refused((cell,) + ALL)

    def test_open(self):
        # What the dale lets down has no limit.
        for region in (((1, 0),), ((1, 1),), ((1, 0), (0, 1), (1, 1)), ((0, 0), (1, 0), (1, 1))):
            self.refused(region)

    def test_without_the_cell_of_the_claim(self):
        # What comes in is 8 in month 0; all of it goes to the first right. The second one is in month 1.
        basin, rights = parse_basin("site s flow 8 1\nright a at s wants 9 0\nright b at s wants 0 2")
        plan = (((8, 0), (0, 1)), ((0, 0),), ((0, 0),))
        early, late = ((0, 0),), ((0, 1),)
        self.assertIsNone(certificate_fault(basin, rights, (plan, (early, late))))
        self.assertEqual(certificate_fault(basin, rights, (plan, (early, early))), ("region", 1))
        self.assertEqual(certificate_fault(basin, rights, (plan, (late, late))), ("region", 0))

    def test_that_does_not_add_up(self):
        self.refused(((0, 0),))
        self.refused(((0, 0), (1, 0)))
        self.refused(((0, 1),))

    def test_a_plan_that_wastes_water_adds_up_nowhere(self):
        plan = odd.put(PLAN, (0, 1, 0), 1)
        self.assertEqual(certificate_fault(BASIN, RIGHTS, (plan, REGIONS)), ("region", 0))

    def test_later_claims_do_not_count(self):
        # The plan gives the younger right what the older one lacks.
        basin, rights = parse_basin("site s flow 5\nright a at s wants 3\nright b at s wants 4")
        everything = ((0, 0),)
        self.assertIsNone(certificate_fault(basin, rights, ((((3,), (2,)), ((0,),), ((0,),)), (everything,))))
        plan = (((2,), (3,)), ((0,),), ((0,),))
        self.assertEqual(certificate_fault(basin, rights, (plan, (everything,) * 2)), ("region", 0))

    def test_every_region_in_the_place_of_another(self):
        for basin, rights in [(HILLS, HERDS)] + oracle.middle_rivers(43, 5):
            plan, regions = make_certificate(basin, rights)
            amounts = greatest(basin, rights)
            sizes = [size for _, _, size in oracle.all_claims(basin, rights)]
            short = [k for k, size in enumerate(sizes) if amounts[k] < size]
            self.assertEqual(len(regions), len(short))
            every = list(oracle.all_regions(basin))
            for k, number in enumerate(short):
                found = oracle.exhausted_regions(basin, rights, amounts, number)
                for region in every[k % 3::3] + found:
                    fault = None if region in found else ("region", k)
                    others = regions[:k] + (region,) + regions[k + 1:]
                    self.assertEqual(certificate_fault(basin, rights, (plan, others)), fault)


class Whoever(unittest.TestCase):
    """The plan of a certificate without a fault gives the greatest deliveries, whoever made it."""

    def fitting(self, every, amounts, claims_told, k):
        """The regions, of those with a limit, that go with the claim k for a plan that gives these amounts."""
        return [
            region for region, limit in every
            if claims_told[k][1] in region
            and limit == sum(amounts[j] for j in range(k + 1) if claims_told[j][1] in region)
        ]

    def test_every_right_plan_with_the_regions_that_fit(self):
        without_fault = 0
        for basin, rights, plans in oracle.small_rivers(41, 30, 20, 800):
            claims_told = oracle.all_claims(basin, rights)
            every = [(region, oracle.limit_of(basin, region)) for region in oracle.all_regions(basin)]
            for plan in plans:
                amounts = oracle.given_to_claims(basin, rights, plan)
                lacking = [k for k, (_, _, size) in enumerate(claims_told) if amounts[k] < size]
                fits = [self.fitting(every, amounts, claims_told, k) for k in lacking]
                for pick in (0, -1):
                    regions = tuple(fit[pick] if fit else every[0][0] for fit in fits)
                    fault = certificate_fault(basin, rights, (plan, regions))
                    if all(fits):
                        self.assertIsNone(fault)
                        self.assertEqual(amounts, greatest(basin, rights))
                        without_fault += 1
                    else:
                        self.assertEqual(fault, ("region", fits.index([])))
                        self.assertNotEqual(amounts, greatest(basin, rights))
        self.assertGreater(without_fault, 300)


class Made(unittest.TestCase):
    def test_by_hand(self):
        self.assertEqual(make_certificate(BASIN, RIGHTS), (PLAN, REGIONS))
        basin, rights = parse_basin("site up to low in 1 reach 3 flow 5 0\nsite low flow 0 0\nright a at low wants 2 4")
        self.assertEqual(make_certificate(basin, rights), (
            (((0, 3),), ((3, 0), (0, 0)), ((0, 0), (0, 0))), (((1, 0),), ((1, 1),)),
        ))

    def test_nothing_is_short(self):
        basin, rights = parse_basin("site s room 2 flow 5\nright a at s wants 3")
        self.assertEqual(make_certificate(basin, rights), ((((3,),), ((0,),), ((2,),)), ()))
        self.assertEqual(make_certificate(basin, ()), (((), ((0,),), ((2,),)), ()))

    def test_the_operation_and_the_reasons_of_all_short_claims_in_order(self):
        unlike = 0
        rivers = [river[:2] for river in oracle.small_rivers(44, 40)] + oracle.middle_rivers(45, 25)
        for basin, rights in rivers + [(HILLS, HERDS)]:
            with self.subTest((basin, rights)):
                plan, regions = make_certificate(basin, rights)
                self.assertEqual(plan, operation(basin, rights))
                short = [claim for claim, _ in short_claims(basin, rights)]
                self.assertEqual(regions, tuple(reason(basin, rights, claim) for claim in short))
                self.assertIsNone(certificate_fault(basin, rights, (plan, regions)))
                unlike = max(unlike, len(set(regions)))
        self.assertGreaterEqual(unlike, 3)

    def test_beyond_the_limits(self):
        basin = (5, (("upper", "lower", 3, 500, 3000, 3000, (0,) * 5), ("lower", None, 0, None, 900, 0, (500,) * 5)))
        rights = tuple((f"right{k}", "lower", (200,) * 5) for k in range(5))
        plan, regions = make_certificate(basin, rights)
        self.assertGreater(len(regions), 5)
        self.assertIsNone(certificate_fault(basin, rights, (plan, regions)))
        self.assertEqual(certificate_fault(basin, rights, (plan, regions[1:])), ("regions",))

    def test_shape(self):
        certificate = make_certificate(BASIN, RIGHTS)
        self.assertTrue(all(isinstance(part, (tuple, int)) for _, part in odd.with_parts(certificate)))


class Bounds(unittest.TestCase):
    def test_by_hand(self):
        # All water is 9; the mill gets 7 of it.
        self.assertEqual(bound_of(BASIN, RIGHTS, ALL, ("right", 0, 0)), 9)
        self.assertEqual(bound_of(BASIN, RIGHTS, ALL, ("right", 0, 1)), 6)
        self.assertEqual(bound_of(BASIN, RIGHTS, ALL, ("right", 1, 0)), 2)
        self.assertEqual(bound_of(BASIN, RIGHTS, ALL, ("right", 1, 1)), 0)
        self.assertEqual(bound_of(BASIN, RIGHTS, ALL, ("room", 1)), 0)
        # The mill is not in these.
        self.assertEqual(bound_of(BASIN, RIGHTS, ((0, 0),), ("right", 1, 0)), 6)
        self.assertEqual(bound_of(BASIN, RIGHTS, ((0, 1),), ("right", 1, 1)), 5)
        self.assertEqual(bound_of(BASIN, RIGHTS, ((0, 0), (0, 1)), ("right", 1, 1)), 5)

    def test_open_or_without_the_cell(self):
        self.assertIsNone(bound_of(BASIN, RIGHTS, ((1, 1),), ("right", 0, 1)))
        self.assertIsNone(bound_of(BASIN, RIGHTS, ((0, 0),), ("right", 0, 0)))
        self.assertIsNone(bound_of(BASIN, RIGHTS, ((0, 0),), ("room", 0)))

    def test_it_can_be_more_than_the_claim(self):
        basin, rights = parse_basin("site s flow 9\nright a at s wants 2")
        self.assertEqual(bound_of(basin, rights, ((0, 0),), ("right", 0, 0)), 9)
        self.assertEqual(bound_of(basin, rights, ((0, 0),), ("room", 0)), 7)

    def test_every_region_and_claim(self):
        rivers = [river[:2] for river in oracle.small_rivers(46, 12)] + oracle.middle_rivers(47, 4)
        for basin, rights in rivers:
            amounts = oracle.greatest_by_regions(basin, rights)
            told = oracle.all_claims(basin, rights)
            self.assertEqual(tuple(claim for claim, _, _ in told), claims(basin, rights))
            for k, (claim, cell, size) in enumerate(told):
                least = None
                for region in oracle.all_regions(basin):
                    bound = bound_of(basin, rights, region, claim)
                    limit = oracle.limit_of(basin, region)
                    if limit is None or cell not in region:
                        self.assertIsNone(bound)
                        continue
                    used = sum(amounts[j] for j in range(k) if told[j][1] in region)
                    self.assertEqual(bound, limit - used)
                    self.assertGreaterEqual(bound, amounts[k])
                    least = bound if least is None else min(least, bound)
                if amounts[k] < size:
                    self.assertEqual(least, amounts[k])


if __name__ == "__main__":
    unittest.main()
