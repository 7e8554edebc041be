"""The examples of the document, as they stand there."""

import doctest
import unittest

EXAMPLES = {
    "the head": r'''
>>> from heldwater.basintext import parse_basin
>>> from heldwater.flows import greatest
>>> from heldwater.regions import reason
>>> basin, rights = parse_basin("site dale to mouth room 4 flow 6 1\nsite mouth flow 2 0\nright mill at mouth wants 3 4\nright farm at dale wants 3 2")
>>> greatest(basin, rights)[:4], reason(basin, rights, ("right", 1, 0))
((3, 4, 2, 0), ((0, 0), (1, 0), (0, 1), (1, 1)))
''',
    "basintext": r'''
>>> from heldwater.basintext import basin_text, parse_basin
>>> basin, rights = parse_basin("site dale to mouth room 4 flow 6 1\nsite mouth flow 2 0\nright mill at mouth wants 3 4\nright farm at dale wants 3 2")
>>> basin
(2, (('dale', 'mouth', 0, None, 4, 0, (6, 1)), ('mouth', None, 0, None, 0, 0, (2, 0))))
>>> rights, basin_text(basin, ())
((('mill', 'mouth', (3, 4)), ('farm', 'dale', (3, 2))), 'site dale to mouth room 4 flow 6 1\nsite mouth flow 2 0')
''',
    "flows": r'''
>>> from heldwater.basintext import parse_basin
>>> from heldwater.flows import greatest, short_claims
>>> basin, rights = parse_basin("site dale to mouth room 4 flow 6 1\nsite mouth flow 2 0\nright mill at mouth wants 3 4\nright farm at dale wants 3 2")
>>> greatest(basin, rights), short_claims(basin, rights)[:2]
((3, 4, 2, 0, 0, 0), ((('right', 1, 0), 1), (('right', 1, 1), 2)))
''',
    "regions": r'''
>>> from heldwater.basintext import parse_basin
>>> from heldwater.regions import entering, reason, supply
>>> basin, rights = parse_basin("site up to low in 1 reach 3 flow 5 0\nsite low flow 0 0\nright a at low wants 2 4")
>>> reason(basin, rights, ("right", 0, 0)), reason(basin, rights, ("right", 0, 1)), entering(basin, ((1, 1),))
(((1, 0),), ((1, 1),), 3)
''',
    "operations": r'''
>>> from heldwater.basintext import parse_basin
>>> from heldwater.operations import operation
>>> basin, rights = parse_basin("site dale to mouth room 4 flow 6 1\nsite mouth flow 2 0\nright mill at mouth wants 3 4\nright farm at dale wants 3 2")
>>> operation(basin, rights)
(((3, 4), (2, 0)), ((1, 4), (0, 0)), ((3, 0), (0, 0)))
''',
    "papers": r'''
>>> from heldwater.basintext import parse_basin
>>> from heldwater.papers import certificate_fault, make_certificate
>>> basin, rights = parse_basin("site dale to mouth room 4 flow 6 1\nsite mouth flow 2 0\nright mill at mouth wants 3 4\nright farm at dale wants 3 2")
>>> plan, regions = make_certificate(basin, rights)
>>> regions[0], len(regions), certificate_fault(basin, rights, (plan, regions)), certificate_fault(basin, rights, (plan, regions[1:]))
(((0, 0), (1, 0), (0, 1), (1, 1)), 3, None, ('regions',))
''',
    "plantext": r'''
>>> from heldwater.basintext import parse_basin
>>> from heldwater.papers import make_certificate
>>> from heldwater.plantext import certificate_text, parse_plan
>>> basin, rights = parse_basin("site dale to mouth room 4 flow 6 1\nsite mouth flow 2 0\nright mill at mouth wants 3 4")
>>> certificate_text(basin, rights, make_certificate(basin, rights))
'give mill 3 4\nlet dale 1 4\nstore dale 4 1\nlet mouth 0 0\nstore mouth 0 0\nregion dale/1 mouth/1'
''',
    "plantext, a text that is refused": r'''
>>> from heldwater.basintext import parse_basin
>>> from heldwater.plantext import parse_plan
>>> basin, rights = parse_basin("site lake flow 5")
>>> parse_plan(basin, rights, "let lake 0\nstore lake 01")
Traceback (most recent call last):
heldwater.errors.BadPlan: line 2
''',
    "sizes": r'''
>>> from heldwater.basintext import parse_basin
>>> from heldwater.sizes import firm_yield, least_room
>>> basin, rights = parse_basin("site dale to mouth room 4 flow 6 1\nsite mouth flow 2 0\nright mill at mouth wants 3 4\nright farm at dale wants 3 2")
>>> least_room(basin, rights[:1], "dale"), least_room(basin, rights, "dale"), firm_yield(basin, (), "mouth")
(3, None, 4)
''',
    "operations, as the part on parcels shows it": r'''
>>> from heldwater.basintext import parse_basin
>>> from heldwater.operations import operation
>>> basin, rights = parse_basin("site dale to mouth room 4 held 2 flow 3 1\nsite mouth flow 2 0\nright mill at mouth wants 3 4")
>>> operation(basin, rights)
(((3, 4),), ((1, 4), (0, 0)), ((4, 1), (0, 0)))
''',
}


class Examples(unittest.TestCase):
    def test_each(self):
        for name, text in EXAMPLES.items():
            with self.subTest(name):
                example = doctest.DocTestParser().get_doctest(text, {}, name, None, 0)
                self.assertGreater(len(example.examples), 0)
                told = []
                results = doctest.DocTestRunner(verbose=False).run(example, out=told.append)
                self.assertEqual(results.failed, 0, "".join(told))


if __name__ == "__main__":
    unittest.main()
