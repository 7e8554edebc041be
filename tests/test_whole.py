"""The whole program at once: dockets, seasons, certificates, reasons, bounds and the operation, against one another."""

import itertools
import random
import unittest

import oracle
from heldwater.basins import claim_cell, claim_size, claims, upstream
from heldwater.basintext import basin_text, parse_basin
from heldwater.curves import reach_worth, room_worth, yield_curve
from heldwater.dockets import Docket
from heldwater.ensembles import hindsight, of_table, reliability, sure_deliveries, sure_room, sure_yield
from heldwater.errors import BadChange
from heldwater.flows import delivered, greatest, short_claims
from heldwater.journal import replay_docket, replay_project, replay_season
from heldwater.leases import gets, harm, safe_lease, under
from heldwater.operations import operation
from heldwater.papers import bound_of, certificate_fault, make_certificate
from heldwater.parcels import parcels
from heldwater.plans import gives, plan_fault, spills
from heldwater.plantext import certificate_text, parse_certificate, parse_plan, plan_text
from heldwater.projects import Project
from heldwater.regions import entering, is_exhausted, reason, supply
from heldwater.rules import best_even_target, run_by
from heldwater.seasons import Season
from heldwater.sizepapers import judge_least_room, judge_room, least_room_paper, room_paper
from heldwater.sizes import firm_yield, least_room, with_room
from heldwater.waste import least_waste, overfull, surplus, waste_of


def tables_of(luck, basin):
    """A dry table, a wet one, and one by luck."""
    dry = tuple(tuple(amount // 2 for amount in site[6]) for site in basin[1])
    wet = tuple(tuple(amount + luck.randint(0, 2) for amount in site[6]) for site in basin[1])
    other = tuple(tuple(luck.randint(0, 4) for _ in site[6]) for site in basin[1])
    return dry, wet, other


def led_docket(luck, basin, changes):
    docket = Docket(basin)
    sites = [site[0] for site in basin[1]]
    for _ in range(changes):
        names = [right[0] for right in docket.rights()] or ["none"]
        demands = tuple(luck.randint(0, 4) for _ in range(basin[0]))
        name, rank = luck.choice(names), luck.randint(0, len(names))
        change = luck.choice((
            ("file", (luck.choice("pqrstu"), luck.choice(sites), demands), rank), ("move", name, luck.choice(sites)),
            ("file", (luck.choice("pqrstu"), luck.choice(sites), demands), rank), ("rank", name, rank),
            ("demands", name, demands), luck.choice((("withdraw", name), ("rank", name, 0))), "undo",
        ))
        if change == "undo":
            docket.undo()
            continue
        before = dict(zip([right[0] for right in docket.rights()], docket.deliveries()))
        try:
            told = docket.effects(change)
        except BadChange:
            continue
        assert docket.apply(change) == told
        after = dict(zip([right[0] for right in docket.rights()], docket.deliveries()))
        nothing = (0,) * basin[0]
        for who, m, one, other in told:
            assert before.get(who, nothing)[m] == one != other == after.get(who, nothing)[m]
    return docket


class Whole(unittest.TestCase):
    def rivers(self, seed, many):
        """Pairs (basin, rights of a docket that was led by changes)."""
        luck = random.Random(seed)
        found = []
        while len(found) < many:
            months, count = luck.choice(((1, 4), (2, 3), (3, 3), (4, 2), (4, 1), (2, 4), (3, 2)))
            basin, _ = oracle.random_basin(luck, months, count, 16)
            docket = led_docket(luck, basin, 16)
            again = replay_docket(basin, docket.journal())
            self.assertEqual((again.rights(), again.deliveries()), (docket.rights(), docket.deliveries()))
            rights = docket.rights()
            self.assertEqual(parse_basin(basin_text(basin, rights)), (basin, rights))
            self.assertEqual(docket.deliveries(), delivered(basin, rights))
            found.append((basin, rights))
        return found

    def test_what_rights_are_told_is_the_most_and_each_reason_shows_it(self):
        shorts = 0
        for basin, rights in self.rivers(901, 60):
            with self.subTest((basin, rights)):
                amounts = greatest(basin, rights)
                self.assertEqual(amounts, oracle.greatest_by_regions(basin, rights))
                plan, regions = make_certificate(basin, rights)
                self.assertIsNone(certificate_fault(basin, rights, (plan, regions)))
                self.assertEqual(plan, operation(basin, rights))
                self.assertEqual(gives(basin, rights, plan), amounts)
                short = [claim for claim, _ in short_claims(basin, rights)]
                self.assertEqual(len(short), len(regions))
                for claim, region in zip(short, regions):
                    k = claims(basin, rights).index(claim)
                    self.assertEqual(reason(basin, rights, claim), region)
                    self.assertTrue(is_exhausted(basin, rights, region, claim))
                    self.assertEqual(bound_of(basin, rights, region, claim), amounts[k])
                    used = sum(amount for one, amount in zip(claims(basin, rights)[:k + 1], amounts)
                               if claim_cell(basin, rights, one) in region)
                    self.assertEqual(used, supply(basin, region) + entering(basin, region))
                shorts += len(short)
                text = certificate_text(basin, rights, (plan, regions))
                self.assertEqual(parse_certificate(basin, rights, text), (plan, regions))
                self.assertEqual(parse_plan(basin, rights, plan_text(basin, rights, plan)), plan)
        self.assertGreater(shorts, 100)

    def test_no_bound_says_less(self):
        for basin, rights in self.rivers(902, 15):
            amounts = greatest(basin, rights)
            for claim, amount in zip(claims(basin, rights), amounts):
                bounds = [bound_of(basin, rights, region, claim) for region in oracle.all_regions(basin)]
                least = min([bound for bound in bounds if bound is not None], default=None)
                if amount < claim_size(basin, rights, claim):
                    self.assertEqual(least, amount)
                else:
                    self.assertTrue(least is None or least >= amount)

    def test_no_plan_gives_first_claims_more(self):
        luck = random.Random(903)
        for basin, rights in self.rivers(904, 40):
            sums = list(itertools.accumulate(greatest(basin, rights)))
            targets = tuple(tuple(luck.randint(0, site[4]) for _ in range(basin[0])) for site in basin[1])
            plans = [oracle.random_plan(luck, basin, rights) for _ in range(30)] + [run_by(basin, rights, targets)]
            for plan in plans:
                self.assertIsNone(plan_fault(basin, rights, plan))
                for got, most in zip(itertools.accumulate(gives(basin, rights, plan)), sums):
                    self.assertLessEqual(got, most)
                self.assertGreaterEqual(waste_of(basin, rights, plan), least_waste(basin, rights))

    def test_a_season_that_is_as_forecast(self):
        for basin, rights in self.rivers(905, 40):
            with self.subTest((basin, rights)):
                told = delivered(basin, rights)
                season = Season(basin, rights)
                for m in range(basin[0]):
                    self.assertEqual(season.expected(), told)
                    found = season.close(tuple(site[6][m] for site in basin[1]))
                    self.assertEqual(found[0], tuple(row[m] for row in told))
                self.assertEqual(season.expected(), told)
                self.assertEqual(season.outlook(), operation(basin, rights))
                forecast = tuple(site[6] for site in basin[1])
                self.assertEqual(hindsight(basin, rights, forecast), tuple((sum(row), sum(row)) for row in told))

    def test_a_season_that_is_not(self):
        luck = random.Random(906)
        for basin, rights in self.rivers(907, 40):
            for table in tables_of(luck, basin):
                with self.subTest((basin, rights, table)):
                    season = Season(basin, rights)
                    for inflows in zip(*table):
                        season.close(inflows)
                    had, plan = of_table(basin, table), season.outlook()
                    self.assertIsNone(plan_fault(had, rights, plan))
                    wasted = sum(sum(record[4]) for record in season.records())
                    self.assertEqual(wasted, sum(map(sum, spills(had, rights, plan))))
                    self.assertGreaterEqual(waste_of(had, rights, plan), least_waste(had, rights))
                    got = tuple(sum(row) for row in season.expected())
                    pairs = hindsight(basin, rights, table)
                    self.assertEqual(tuple(one for one, _ in pairs), got)
                    self.assertEqual(tuple(best for _, best in pairs), tuple(sum(row) for row in delivered(had, rights)))
                    for k in range(len(rights) + 1):
                        self.assertLessEqual(sum(got[:k]), sum(best for _, best in pairs[:k]))
                    again = replay_season(basin, rights, season.journal())
                    self.assertEqual((again.records(), again.outlook()), (season.records(), plan))

    def test_water_is_neither_made_nor_lost(self):
        for basin, rights in self.rivers(908, 40):
            with self.subTest((basin, rights)):
                plan = operation(basin, rights)
                water = oracle.all_water(basin)
                self.assertEqual(waste_of(basin, rights, plan), water - sum(greatest(basin, rights)))
                self.assertEqual(waste_of(basin, rights, plan), least_waste(basin, rights))
                region = overfull(basin, rights)
                if region is None:
                    self.assertEqual(least_waste(basin, rights), 0)
                else:
                    self.assertEqual(surplus(basin, rights, region), least_waste(basin, rights))
                given, stored, spilled, lost = parcels(basin, rights, plan)
                for rows, table in ((given, plan[0]), (spilled, spills(basin, rights, plan))):
                    self.assertEqual(tuple(tuple(sum(n for _, n in row) for row in line) for line in rows), table)
                self.assertEqual([sum(n for _, n in row) for row in stored], [row[-1] for row in plan[2]])
                total = sum(n for line in (*given, *spilled, *lost, stored) for row in line for _, n in row)
                self.assertEqual(total, water)

    def test_rooms_and_what_they_are_for(self):
        for basin, rights in self.rivers(909, 25):
            for name, _, _, _, room, held, _ in basin[1]:
                with self.subTest((basin, rights, name)):
                    least = least_room(basin, rights, name)
                    self.assertTrue(judge_least_room(basin, rights, name, least_room_paper(basin, rights, name)))
                    for other in (room, held, held + 3):
                        word = room_paper(basin, rights, name, other)[0]
                        self.assertTrue(judge_room(basin, rights, name, other, room_paper(basin, rights, name, other)))
                        self.assertEqual(word == "enough", least is not None and other >= least)
                    tables = (tuple(site[6] for site in basin[1]),)
                    self.assertEqual(sure_room(basin, rights, name, tables * 2), least)
                    self.assertEqual(sure_yield(basin, rights, name, tables * 3), firm_yield(basin, rights, name))
                    curve = yield_curve(basin, name, basin[1][-1][0])
                    for one, amount in curve:
                        self.assertEqual(firm_yield(with_room(basin, name, one), (), basin[1][-1][0]), amount)
                    self.assertIn(name, upstream(basin, basin[1][-1][0]))

    def test_a_project_shows_what_more_is_worth(self):
        for basin, rights in self.rivers(910, 25):
            now = sum(map(sum, delivered(basin, rights)))
            project = Project(basin, rights)
            for site, rooms, reaches in zip(basin[1], room_worth(basin, rights), reach_worth(basin, rights)):
                for kind, amount, worth in (("room", site[4], rooms), ("reach", site[3], reaches)):
                    if amount is None:
                        self.assertEqual(worth, 0)
                        continue
                    told = project.edit((kind, site[0], amount + 1))
                    self.assertEqual(sum(after - before for _, _, before, after in told), worth)
                    self.assertEqual(sum(map(sum, project.deliveries())), now + worth)
                    self.assertEqual(replay_project(basin, rights, project.journal()).basin(), project.basin())
                    project.undo()
            self.assertEqual(project.basin(), basin)

    def test_what_is_sure(self):
        luck = random.Random(911)
        for basin, rights in self.rivers(912, 30):
            tables = tables_of(luck, basin)
            sure = sure_deliveries(basin, rights, tables)
            for table in tables:
                for row, least in zip(delivered(of_table(basin, table), rights), sure):
                    self.assertTrue(all(amount >= one for amount, one in zip(row, least)))
            for right, row, many in zip(rights, sure, reliability(basin, rights, tables)):
                self.assertEqual(row == right[2], many == 3)

    def test_leases(self):
        luck = random.Random(913)
        done = 0
        for basin, rights in self.rivers(914, 40):
            if len(rights) < 2:
                continue
            lender, borrower = luck.sample([right[0] for right in rights], 2)
            m = luck.randrange(basin[0])
            amount = safe_lease(basin, rights, lender, borrower, m)
            if amount == 0:
                continue
            leases = ((lender, borrower, m, amount),)
            self.assertEqual(harm(basin, rights, leases), ())
            rows = dict(zip([right[0] for right in rights], delivered(basin, rights)))
            for name, row in rows.items():
                if name not in (lender, borrower):
                    self.assertTrue(all(a >= b for a, b in zip(gets(basin, rights, leases, name), row)))
            self.assertIsNone(certificate_fault(basin, under(basin, rights, leases),
                                                make_certificate(basin, under(basin, rights, leases))))
            done += 1
        self.assertGreater(done, 10)

    def test_best_targets_are_not_better_than_the_operation(self):
        for basin, rights in self.rivers(915, 25):
            targets = ((0,) * basin[0],) * len(basin[1])
            for s, site in enumerate(basin[1]):
                target = best_even_target(basin, rights, targets, site[0])
                targets = targets[:s] + ((target,) * basin[0],) + targets[s + 1:]
            plan = run_by(basin, rights, targets)
            self.assertIsNone(plan_fault(basin, rights, plan))
            self.assertLessEqual(sum(map(sum, plan[0])), sum(map(sum, operation(basin, rights)[0])))


if __name__ == "__main__":
    unittest.main()
