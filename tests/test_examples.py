"""The examples of the document, as they stand there."""

import doctest
import unittest

EXAMPLES = {
    "the head": r'''
>>> from heldwater.basintext import parse_basin
>>> from heldwater.flows import greatest
>>> from heldwater.regions import reason
>>> from heldwater.seasons import Season
>>> basin, rights = parse_basin("site dale to mouth room 4 flow 6 1\nsite mouth flow 2 0\nright mill at mouth wants 3 4\nright farm at dale wants 3 2")
>>> greatest(basin, rights)[:4], reason(basin, rights, ("right", 1, 0))
((3, 4, 2, 0), ((0, 0), (1, 0), (0, 1), (1, 1)))
>>> season = Season(basin, rights)
>>> season.close((6, 2)), season.expected()
(((3, 2), (1, 0), (3, 0), (0, 0)), ((3, 4), (2, 0)))
''',
    "basintext": r'''
>>> from heldwater.basintext import basin_text, parse_basin
>>> basin, rights = parse_basin("site dale to mouth room 4 flow 6 1\nsite mouth flow 2 0\nright mill at mouth wants 3 4\nright farm at dale wants 3 2")
>>> basin
(2, (('dale', 'mouth', 0, None, 4, 0, (6, 1)), ('mouth', None, 0, None, 0, 0, (2, 0))))
>>> rights, basin_text(basin, ())
((('mill', 'mouth', (3, 4)), ('farm', 'dale', (3, 2))), 'site dale to mouth room 4 flow 6 1\nsite mouth flow 2 0')
''',
    "flows": r'''
>>> from heldwater.basintext import parse_basin
>>> from heldwater.flows import greatest, short_claims
>>> basin, rights = parse_basin("site dale to mouth room 4 flow 6 1\nsite mouth flow 2 0\nright mill at mouth wants 3 4\nright farm at dale wants 3 2")
>>> greatest(basin, rights), short_claims(basin, rights)[:2]
((3, 4, 2, 0, 0, 0), ((('right', 1, 0), 1), (('right', 1, 1), 2)))
''',
    "regions": r'''
>>> from heldwater.basintext import parse_basin
>>> from heldwater.regions import entering, reason, supply
>>> basin, rights = parse_basin("site up to low in 1 reach 3 flow 5 0\nsite low flow 0 0\nright a at low wants 2 4")
>>> reason(basin, rights, ("right", 0, 0)), reason(basin, rights, ("right", 0, 1)), entering(basin, ((1, 1),))
(((1, 0),), ((1, 1),), 3)
''',
    "operations": r'''
>>> from heldwater.basintext import parse_basin
>>> from heldwater.operations import operation
>>> basin, rights = parse_basin("site dale to mouth room 4 flow 6 1\nsite mouth flow 2 0\nright mill at mouth wants 3 4\nright farm at dale wants 3 2")
>>> operation(basin, rights)
(((3, 4), (2, 0)), ((1, 4), (0, 0)), ((3, 0), (0, 0)))
''',
    "papers": r'''
>>> from heldwater.basintext import parse_basin
>>> from heldwater.papers import certificate_fault, make_certificate
>>> basin, rights = parse_basin("site dale to mouth room 4 flow 6 1\nsite mouth flow 2 0\nright mill at mouth wants 3 4\nright farm at dale wants 3 2")
>>> plan, regions = make_certificate(basin, rights)
>>> regions[0], len(regions), certificate_fault(basin, rights, (plan, regions)), certificate_fault(basin, rights, (plan, regions[1:]))
(((0, 0), (1, 0), (0, 1), (1, 1)), 3, None, ('regions',))
''',
    "plantext": r'''
>>> from heldwater.basintext import parse_basin
>>> from heldwater.papers import make_certificate
>>> from heldwater.plantext import certificate_text, parse_plan
>>> basin, rights = parse_basin("site dale to mouth room 4 flow 6 1\nsite mouth flow 2 0\nright mill at mouth wants 3 4")
>>> certificate_text(basin, rights, make_certificate(basin, rights))
'give mill 3 4\nlet dale 1 4\nstore dale 4 1\nlet mouth 0 0\nstore mouth 0 0\nregion dale/1 mouth/1'
''',
    "plantext, a text that is refused": r'''
>>> from heldwater.basintext import parse_basin
>>> from heldwater.plantext import parse_plan
>>> basin, rights = parse_basin("site lake flow 5")
>>> parse_plan(basin, rights, "let lake 0\nstore lake 01")
Traceback (most recent call last):
heldwater.errors.BadPlan: line 2
''',
    "sizes": r'''
>>> from heldwater.basintext import parse_basin
>>> from heldwater.sizes import firm_yield, least_room
>>> basin, rights = parse_basin("site dale to mouth room 4 flow 6 1\nsite mouth flow 2 0\nright mill at mouth wants 3 4\nright farm at dale wants 3 2")
>>> least_room(basin, rights[:1], "dale"), least_room(basin, rights, "dale"), firm_yield(basin, (), "mouth")
(3, None, 4)
''',
    "parcels": r'''
>>> from heldwater.basintext import parse_basin
>>> from heldwater.operations import operation
>>> from heldwater.parcels import parcels
>>> basin, rights = parse_basin("site dale to mouth room 4 held 2 flow 3 1\nsite mouth flow 2 0\nright mill at mouth wants 3 4")
>>> operation(basin, rights)
(((3, 4),), ((1, 4), (0, 0)), ((4, 1), (0, 0)))
>>> deliveries, stored, spilled, lost = parcels(basin, rights, operation(basin, rights))
>>> deliveries
((((('held', 0), 1), (('in', 1, 0), 2)), ((('held', 0), 1), (('in', 0, 0), 3))),)
>>> spilled[0], stored, lost[1]
(((), ()), (((('in', 0, 1), 1),), ()), ((), ()))
''',
    # The document has one parenthesis too many ahead of what `under` tells; it stands here without it.
    "leases": r'''
>>> from heldwater.basintext import parse_basin
>>> from heldwater.leases import gets, harm, safe_lease, under
>>> basin, rights = parse_basin("site up to low flow 4\nsite low flow 1\nright a at low wants 4\nright b at low wants 2\nright c at up wants 3")
>>> under(basin, rights, (("a", "c", 0, 2),))
(('a', 'low', (2,)), ('leasea', 'up', (2,)), ('b', 'low', (2,)), ('c', 'up', (3,)))
>>> harm(basin, rights, (("a", "c", 0, 2),)), gets(basin, rights, (("a", "c", 0, 2),), "c"), safe_lease(basin, rights, "a", "c", 0)
((), (2,), 4)
''',
    "dockets": r'''
>>> from heldwater.basintext import parse_basin
>>> from heldwater.dockets import Docket
>>> basin, rights = parse_basin("site dale to mouth room 4 flow 6 1\nsite mouth flow 2 0\nright mill at mouth wants 3 4\nright farm at dale wants 3 2")
>>> docket = Docket(basin)
>>> docket.apply(("file", rights[0], 0)), docket.apply(("file", rights[1], 1)), docket.effects(("rank", "farm", 0))
((('mill', 0, 0, 3), ('mill', 1, 0, 4)), (('farm', 0, 0, 2),), (('mill', 1, 4, 1), ('farm', 0, 2, 3), ('farm', 1, 0, 2)))
''',
    "seasons": r'''
>>> from heldwater.basintext import parse_basin
>>> from heldwater.seasons import Season
>>> basin, rights = parse_basin("site dale to mouth room 4 flow 6 1\nsite mouth flow 2 0\nright mill at mouth wants 3 4\nright farm at dale wants 3 2")
>>> season = Season(basin, rights)
>>> season.expected(), season.close((12, 2)), season.expected()
(((3, 4), (2, 0)), ((3, 3), (1, 0), (4, 0), (4, 0)), ((3, 4), (3, 1)))
>>> season.undo(), season.close((4, 2)), season.close((0, 0))[0]
(True, ((3, 0), (1, 0), (3, 0), (0, 0)), (3, 0))
''',
    "waste": r'''
>>> from heldwater.basintext import parse_basin
>>> from heldwater.waste import least_waste, overfull, surplus
>>> basin, rights = parse_basin("site dale to mouth reach 1 room 2 flow 9 0\nsite mouth flow 0 0\nright mill at mouth wants 3 4")
>>> least_waste(basin, rights), overfull(basin, rights), surplus(basin, rights, ((0, 0),))
(6, ((0, 0),), 6)
''',
    "curves": r'''
>>> from heldwater.basintext import parse_basin
>>> from heldwater.curves import reach_worth, room_worth, yield_curve
>>> basin, rights = parse_basin("site dale to mouth room 1 flow 6 1\nsite mouth flow 2 0\nright mill at mouth wants 3 4")
>>> yield_curve(basin, "dale", "mouth"), room_worth(basin, rights), reach_worth(basin, rights)
(((0, 1), (1, 2), (2, 3), (3, 4)), (1, 1), (0, 0))
''',
    "ensembles": r'''
>>> from heldwater.basintext import parse_basin
>>> from heldwater.ensembles import hindsight, reliability, sure_deliveries, sure_yield
>>> basin, rights = parse_basin("site dale to mouth room 4 flow 6 1\nsite mouth flow 2 0\nright mill at mouth wants 3 4\nright farm at dale wants 3 2")
>>> dry, wet = ((2, 1), (2, 0)), ((9, 9), (2, 0))
>>> reliability(basin, rights, (dry, wet)), sure_deliveries(basin, rights, (dry, wet)), sure_yield(basin, (), "mouth", (dry, wet))
((1, 1), ((3, 2), (0, 0)), 2)
>>> hindsight(basin, rights, wet)
((7, 7), (5, 5))
''',
    "rules": r'''
>>> from heldwater.basintext import parse_basin
>>> from heldwater.rules import best_even_target, run_by
>>> basin, rights = parse_basin("site dale to mouth room 4 flow 6 1\nsite mouth flow 2 0\nright mill at mouth wants 3 4\nright farm at dale wants 3 2")
>>> run_by(basin, rights, ((0, 0), (0, 0)))
(((3, 0), (3, 1)), ((3, 0), (0, 0)), ((0, 0), (0, 0)))
>>> best_even_target(basin, rights, ((0, 0), (0, 0)), "dale"), run_by(basin, rights, ((2, 2), (0, 0)))
(1, (((3, 0), (3, 2)), ((1, 0), (0, 0)), ((2, 1), (0, 0))))
''',
    "projects": r'''
>>> from heldwater.basintext import parse_basin
>>> from heldwater.projects import Project
>>> basin, rights = parse_basin("site dale to mouth room 1 flow 6 1\nsite mouth flow 2 0\nright mill at mouth wants 3 4")
>>> project = Project(basin, rights)
>>> project.edit(("room", "dale", 4)), project.edit(("inflows", "dale", (0, 9))), project.journal()
((('mill', 1, 2, 4),), (('mill', 0, 3, 2),), 'room dale 4\ninflows dale 0 9\n')
''',
}


class Examples(unittest.TestCase):
    def test_each(self):
        for name, text in EXAMPLES.items():
            with self.subTest(name):
                example = doctest.DocTestParser().get_doctest(text, {}, name, None, 0)
                self.assertGreater(len(example.examples), 0)
                told = []
                results = doctest.DocTestRunner(verbose=False).run(example, out=told.append)
                self.assertEqual(results.failed, 0, "".join(told))


if __name__ == "__main__":
    unittest.main()
