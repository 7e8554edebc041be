"""u1 to u3: papers on a room and on the least room, judged and made."""

import itertools
import random
import unittest

import odd
import oracle
from heldwater.basintext import parse_basin
from heldwater.flows import short_claims
from heldwater.operations import operation
from heldwater.plans import plan_fault
from heldwater.regions import reason
from heldwater.sizepapers import judge_least_room, judge_room, least_room_paper, room_paper
from heldwater.sizes import least_room, with_room

# With the rights, the dale needs a room of 3 for the mill; one unit is held.
BASIN, RIGHTS = parse_basin(
    "site dale to mouth room 9 held 1 flow 5 1\nsite mouth flow 2 0\n"
    "right mill at mouth wants 3 4\nright farm at dale wants 1 0"
)
ENOUGH = ("enough", (((3, 4), (1, 0)), ((1, 4), (0, 0)), ((3, 0), (0, 0))))
LESS = ("less", ((0, 1), (1, 1)))
WHOLE = (3, (ENOUGH, LESS))

# A right that is short with any room.
DRY, THIRSTY = parse_basin("site up to low in 1 room 2 held 1 flow 2 3\nsite low flow 0 1\nright a at low wants 0 5")
NEVER = ("less", ((0, 0), (1, 1)))


def is_served(basin, rights, plan):
    return all(row == right[2] for row, right in zip(plan[0], rights))


def demanded(basin, rights, region):
    return sum(size for claim, cell, size in oracle.all_claims(basin, rights) if claim[0] == "right" and cell in region)


def rivers():
    """Pairs (basin, rights), also with demands that come late."""
    luck = random.Random(81)
    found = [river[:2] for river in oracle.small_rivers(82, 30)] + oracle.middle_rivers(83, 20)
    late = [(basin, tuple(
        (name, place, (0,) * (basin[0] - 1) + (max(demands) + luck.randint(0, 3),)) for name, place, demands in rights
    )) for basin, rights in oracle.middle_rivers(84, 20)]
    return found + late


class JudgeRoom(unittest.TestCase):
    def told(self, room, paper, taken):
        with self.subTest((room, paper)):
            self.assertIs(judge_room(BASIN, RIGHTS, "dale", room, paper), taken)

    def test_by_hand(self):
        for room in (1, 2):
            self.told(room, LESS, True)
            self.told(room, ENOUGH, False)
        for room in (3, 4, 8, 9, 10, 99, 100, 10 ** 30):
            self.told(room, ENOUGH, True)
            self.told(room, LESS, False)

    def test_the_room_that_the_basin_has_is_not_looked_at(self):
        for room in (1, 2, 3, 99):
            basin = with_room(BASIN, "dale", room)
            self.assertIs(judge_room(basin, RIGHTS, "dale", 3, ENOUGH), True)
            self.assertIs(judge_room(basin, RIGHTS, "dale", 2, ENOUGH), False)
            self.assertIs(judge_room(basin, RIGHTS, "dale", 3, LESS), False)
            self.assertIs(judge_room(basin, RIGHTS, "dale", 2, LESS), True)

    def test_the_rooms_of_other_sites_are(self):
        plan = odd.put(odd.put(ENOUGH[1], (1, 0, 0), 2), (2, 1, 0), 1)
        plan = odd.put(odd.put(plan, (2, 0, 0), 2), (1, 0, 1), 3)
        for room, taken in ((0, False), (1, True), (2, True)):
            basin = with_room(BASIN, "mouth", room)
            self.assertIs(judge_room(basin, RIGHTS, "dale", 2, ("enough", plan)), taken)
            self.assertIs(judge_room(basin, RIGHTS, "dale", 2, LESS), not taken)

    def test_a_room_below_what_is_held(self):
        for room in (0, -1):
            self.told(room, LESS, False)
            self.told(room, ENOUGH, False)

    def test_a_plan_that_is_not_right(self):
        for path, amount in (((0, 0, 0), 4), ((1, 1, 0), 1), ((2, 0, 0), 5), ((2, 1, 0), 1), ((1, 0, 1), 3), ((1, 0, 0), 0)):
            plan = odd.put(ENOUGH[1], path, amount)
            self.assertIsNotNone(plan_fault(BASIN, RIGHTS, plan))
            self.told(9, ("enough", plan), False)

    def test_a_plan_that_gives_a_right_less(self):
        for path, amount in (((0, 0, 0), 2), ((0, 0, 1), 3), ((0, 1, 0), 0)):
            plan = odd.put(ENOUGH[1], path, amount)
            self.assertIsNone(plan_fault(BASIN, RIGHTS, plan))
            self.told(9, ("enough", plan), False)

    def test_a_plan_that_is_not_the_operation(self):
        # More is stored than has to be; what is in the rooms at the end is not looked at.
        plan = odd.put(ENOUGH[1], (2, 0, 0), 4)
        self.told(4, ("enough", plan), True)
        self.told(3, ("enough", plan), False)
        self.told(4, ("enough", odd.put(plan, (2, 0, 1), 1)), True)

    def test_regions(self):
        for region in oracle.all_regions(BASIN):
            for room in (1, 2, 3):
                limit = oracle.limit_of(oracle.with_room(BASIN, "dale", room), region)
                taken = limit is not None and demanded(BASIN, RIGHTS, region) > limit
                self.told(room, ("less", region), taken)
        # is open
        self.told(1, ("less", ((1, 1),)), False)

    def test_regions_that_are_none(self):
        for region in ((), ((1, 1), (0, 1)), ((0, 1), (0, 1), (1, 1)), ((0, 1), (1, 1), (1, 1)), ((0, 1), (1, 1), (2, 1)),
                       ((0, 1), (1, 1), (1, 2)), [(0, 1), (1, 1)], ((0, 1), [1, 1]), ((0, True), (1, 1)), ((0, 1), (True, 1)),
                       ((False, 1), (1, 1)), (0, 1), None, "region"):
            self.told(1, ("less", region), False)

    def test_one_more_unit_of_demand(self):
        # 3 and 1 units are there at up, 1 at low: in month 1 the two cells hold 3 + 1.
        basin, rights = parse_basin("site up to low in 1 room 2 held 1 flow 2 3\nsite low flow 0 1\nright a at low wants 0 4")
        self.assertIs(judge_room(basin, rights, "up", 1, NEVER), False)
        self.assertIs(judge_room(DRY, THIRSTY, "up", 1, NEVER), True)

    def test_demands_of_all_rights_count_and_those_of_rooms_do_not(self):
        basin, rights = parse_basin("site s room 9 flow 5\nright a at s wants 3\nright b at s wants 2")
        self.assertIs(judge_room(basin, rights, "s", 9, ("less", ((0, 0),))), False)
        basin, rights = parse_basin("site s room 9 flow 4\nright a at s wants 3\nright b at s wants 2")
        self.assertIs(judge_room(basin, rights, "s", 9, ("less", ((0, 0),))), True)

    def test_every_right_plan_and_region(self):
        luck = random.Random(85)
        seen = set()
        for basin, rights, plans in oracle.small_rivers(86, 25, 20, 1000):
            name = luck.choice(basin[1])[0]
            held, now = [(site[5], site[4]) for site in basin[1] if site[0] == name][0]
            for room in {held, now, now + 1}:
                other = oracle.with_room(basin, name, room)
                for plan in plans[::3]:
                    taken = judge_room(basin, rights, name, room, ("enough", plan))
                    fits = all(amount <= room for amount in plan[2][oracle.number_of(basin, name)])
                    self.assertIs(taken, fits and is_served(basin, rights, plan))
                    self.assertFalse(judge_room(basin, rights, name, room, ("less", plan)))
                    seen.add(("enough", taken))
                served = oracle.all_served(other, rights)
                for region in oracle.all_regions(basin):
                    limit = oracle.limit_of(other, region)
                    taken = judge_room(basin, rights, name, room, ("less", region))
                    self.assertIs(taken, limit is not None and demanded(basin, rights, region) > limit)
                    self.assertFalse(taken and served)
                    self.assertFalse(judge_room(basin, rights, name, room, ("enough", region)))
                    seen.add(("less", taken))
        self.assertEqual(len(seen), 4)


class NoPapers(unittest.TestCase):
    """Whatever is handed in, it is not taken, and nothing is raised."""

    strange = odd.ODD_THINGS + (None, 0, 4, (), (None,), ((),), (None, None), "enough", "less", ("enough",), ("less",),
                                ENOUGH[1], LESS[1], ("enough", None), ("less", None), (None, ENOUGH[1]), (None, LESS[1]))

    def not_taken(self, paper):
        with self.subTest(repr(paper)):
            for room in (1, 2, 3, 9):
                self.assertIs(judge_room(BASIN, RIGHTS, "dale", room, paper), False)

    def not_taken_whole(self, paper):
        with self.subTest(repr(paper)):
            self.assertIs(judge_least_room(BASIN, RIGHTS, "dale", paper), False)
            self.assertIs(judge_least_room(DRY, THIRSTY, "up", paper), False)

    def test_things_of_other_kinds(self):
        for thing in self.strange:
            self.not_taken(thing)
            self.not_taken_whole(thing)
            for part in ((None, thing), (thing, None), (thing, thing), (3, thing), (thing, (ENOUGH, LESS)),
                         (3, (thing, LESS)), (3, (ENOUGH, thing)), (1, (thing, None)), (2, (ENOUGH, thing))):
                self.not_taken_whole(part)

    def test_too_short_and_too_long(self):
        for paper in (ENOUGH, LESS):
            for other in (paper[:1], paper[1:], paper + (None,), paper + paper, paper[::-1], list(paper), (paper,), dict([paper])):
                self.not_taken(other)
        for paper in (WHOLE, (None, NEVER)):
            for other in (paper[:1], paper[1:], paper + (None,), paper + paper, paper[::-1], list(paper), (paper,)):
                self.not_taken_whole(other)

    def test_other_words(self):
        for word in odd.ODD_THINGS + (None, 0, (), "Enough", "enough ", " less", "lesser", "more", b"less", ["less"], ("less",)):
            self.not_taken((word, ENOUGH[1]))
            self.not_taken((word, LESS[1]))
        self.not_taken(("enough", LESS[1]))
        self.not_taken(("less", ENOUGH[1]))

    def test_odd_things_at_each_place(self):
        for paper in (ENOUGH, LESS):
            for path, part in odd.with_parts(paper):
                if path == (0,):
                    continue
                for thing in odd.ODD_THINGS + (None, (), (None,), (1, 2, 3, 4, 5)):
                    self.not_taken(odd.put(paper, path, thing))
                if isinstance(part, tuple):
                    self.not_taken(odd.put(paper, path, list(part)))
                    self.not_taken(odd.put(paper, path, part + part[:1]))
                    self.not_taken(odd.put(paper, path, 0))

    def test_true_in_the_place_of_a_number(self):
        for paper in (ENOUGH, LESS):
            for path, part in odd.with_parts(paper):
                if part in (0, 1) and isinstance(part, int):
                    self.not_taken(odd.put(paper, path, bool(part)))

    def test_odd_things_at_each_place_of_a_paper_on_the_least_room(self):
        for path, _ in odd.with_parts(WHOLE):
            for thing in odd.ODD_THINGS + ((None,), (1, 2, 3, 4, 5)):
                if path != (1, 0, 0):
                    self.not_taken_whole(odd.put(WHOLE, path, thing))
        for path, _ in odd.with_parts((None, NEVER)):
            for thing in odd.ODD_THINGS + ((None,), (1, 2, 3, 4, 5)):
                self.not_taken_whole(odd.put((None, NEVER), path, thing))


class JudgeLeastRoom(unittest.TestCase):
    def told(self, paper, taken):
        with self.subTest(paper):
            self.assertIs(judge_least_room(BASIN, RIGHTS, "dale", paper), taken)

    def test_by_hand(self):
        self.told(WHOLE, True)
        self.told((3, [ENOUGH, LESS]), False)
        self.told((3, (LESS, ENOUGH)), False)
        self.told((3, (ENOUGH, ENOUGH)), False)
        self.told((3, (LESS, LESS)), False)
        self.told((3, (ENOUGH, None)), False)
        self.told((3, (None, LESS)), False)
        self.told((3, (ENOUGH,)), False)
        self.told((3, (ENOUGH, LESS, None)), False)
        self.told((3, ENOUGH), False)
        self.told((3, LESS), False)

    def test_other_rooms(self):
        for room in (-3, -1, 0, 1, 2, 4, 5, 9, 99, 10 ** 30, "3", 3.0, True, None):
            self.told((room, (ENOUGH, LESS)), False)
            self.told((room, (ENOUGH, None)), False)
            self.told((room, (None, LESS)), False)

    def test_a_negative_room_and_one_below_what_is_held(self):
        basin, rights = parse_basin("site s room 5 held 3 flow 4\nright a at s wants 3")
        enough = ("enough", (((3,),), ((0,),), ((3,),)))
        nothing = ("enough", (((3,),), ((0,),), ((0,),)))
        for room in (-1, 0, 1, 2):
            for paper in (enough, nothing):
                self.assertIs(judge_least_room(basin, rights, "s", (room, (paper, None))), False)
        self.assertIs(judge_least_room(basin, rights, "s", (3, (enough, None))), True)
        self.assertIs(judge_least_room(basin, rights, "s", (3, (nothing, None))), True)
        self.assertIs(judge_least_room(basin, rights, "s", (4, (enough, None))), False)

    def test_true_in_the_place_of_a_room(self):
        basin, rights = parse_basin("site s room 5 flow 4 0\nright a at s wants 3 1")
        enough, less = ("enough", (((3, 1),), ((0, 0),), ((1, 0),))), ("less", ((0, 1),))
        self.assertIs(judge_least_room(basin, rights, "s", (1, (enough, less))), True)
        self.assertIs(judge_least_room(basin, rights, "s", (True, (enough, less))), False)
        basin, rights = parse_basin("site s room 5 flow 4 0\nright a at s wants 3 0")
        enough = ("enough", (((3, 0),), ((0, 0),), ((0, 0),)))
        self.assertIs(judge_least_room(basin, rights, "s", (0, (enough, None))), True)
        self.assertIs(judge_least_room(basin, rights, "s", (False, (enough, None))), False)

    def test_just_what_is_held(self):
        basin, rights = parse_basin("site s room 5 held 2 flow 4 0\nright a at s wants 4 2")
        enough = ("enough", (((4, 2),), ((0, 0),), ((2, 0),)))
        self.assertIs(judge_least_room(basin, rights, "s", (2, (enough, None))), True)
        # a paper on the room less by 1, which is no room that is judged
        self.assertIs(judge_least_room(basin, rights, "s", (2, (enough, ("less", ((0, 1),))))), False)
        for other in ((), (None,), False, 0, "", ("less", None)):
            self.assertIs(judge_least_room(basin, rights, "s", (2, (enough, other))), False)

    def test_none(self):
        self.assertIs(judge_least_room(DRY, THIRSTY, "up", (None, NEVER)), True)
        for paper in (
            (None, (NEVER,)), (None, (NEVER, None)), (None, (NEVER, NEVER)), (None, None), (None, ()), (None, NEVER[1]),
            (0, NEVER), (1, NEVER), (False, NEVER), (99, NEVER), (None, ("enough", NEVER[1])), (None, NEVER + (None,)),
            (None, (NEVER[1], NEVER[0])), [None, NEVER], (None, list(NEVER)), (None,), (NEVER, None),
        ):
            self.assertIs(judge_least_room(DRY, THIRSTY, "up", paper), False)
        # what is less with some rooms is not less with all of them
        self.told((None, LESS), False)
        self.told((None, ENOUGH), False)

    def test_none_is_for_the_room_that_is_held_there_and_all_water_besides(self):
        # The region holds what is stored at s from month 0 on, as far as the room goes: 2, and 9 in all.
        for wants, taken in ((11, False), (12, True), (13, True)):
            basin, rights = parse_basin(f"site s room 5 held 2 flow 3 4\nright a at s wants 0 {wants}")
            paper = ("less", ((0, 1),))
            # 4 come in, and the room there is 2 + 9
            self.assertIs(judge_least_room(basin, rights, "s", (None, paper)), wants > 15)
            whole = ("less", ((0, 0), (0, 1)))
            self.assertIs(judge_least_room(basin, rights, "s", (None, whole)), True)
            for room, is_less in ((7, wants > 11), (8, wants > 12), (9, wants > 13)):
                self.assertIs(judge_room(basin, rights, "s", room, paper), is_less)
            self.assertIs(judge_room(basin, rights, "s", 7, paper), taken)
        for wants, taken in ((14, False), (15, False), (16, True)):
            basin, rights = parse_basin(f"site s room 5 held 2 flow 3 4\nright a at s wants 0 {wants}")
            self.assertIs(judge_least_room(basin, rights, "s", (None, ("less", ((0, 1),)))), taken)

    def test_what_is_taken_is_the_least_room(self):
        pool = []
        for room in (None, 0, 1, 2, 3, 4, 5):
            for first, second in itertools.product((None, ENOUGH, LESS), repeat=2):
                pool.append((room, (first, second)))
            pool += [(room, ENOUGH), (room, LESS), (room, None)]
        self.assertEqual([paper for paper in pool if judge_least_room(BASIN, RIGHTS, "dale", paper)], [WHOLE])
        self.assertEqual(least_room(BASIN, RIGHTS, "dale"), 3)


class Made(unittest.TestCase):
    def test_by_hand(self):
        self.assertEqual(room_paper(BASIN, RIGHTS, "dale", 3), ENOUGH)
        self.assertEqual(room_paper(BASIN, RIGHTS, "dale", 2), LESS)
        self.assertEqual(least_room_paper(BASIN, RIGHTS, "dale"), WHOLE)
        self.assertEqual(least_room_paper(DRY, THIRSTY, "up"), (None, NEVER))
        basin, rights = parse_basin("site s room 5 held 2 flow 4 0\nright a at s wants 4 2")
        self.assertEqual(least_room_paper(basin, rights, "s"), (2, (("enough", (((4, 2),), ((0, 0),), ((2, 0),))), None)))

    def test_the_paper_on_the_room_less_by_1_is_no_other_one(self):
        # With no room the right is short in month 1 already.
        basin, rights = parse_basin("site s flow 9 0 0\nright a at s wants 0 1 1")
        enough = ("enough", (((0, 1, 1),), ((0, 0, 0),), ((2, 1, 0),)))
        self.assertEqual(least_room_paper(basin, rights, "s"), (2, (enough, ("less", ((0, 1), (0, 2))))))
        self.assertEqual(room_paper(basin, rights, "s", 0), ("less", ((0, 1),)))
        self.assertIs(judge_least_room(basin, rights, "s", (2, (enough, ("less", ((0, 1),))))), False)

    def test_of_each_room(self):
        for basin, rights in rivers():
            for name, _, _, _, _, held, _ in basin[1]:
                for room in list(range(held, held + 6)) + [oracle.all_water(basin), 100, 1000]:
                    if room < held:
                        continue
                    with self.subTest((basin, rights, name, room)):
                        paper = room_paper(basin, rights, name, room)
                        self.assertIs(judge_room(basin, rights, name, room, paper), True)
                        other = with_room(basin, name, room)
                        if oracle.all_served(other, rights):
                            self.assertEqual(paper, ("enough", operation(other, rights)))
                        else:
                            first = [claim for claim, _ in short_claims(other, rights) if claim[0] == "right"][0]
                            self.assertEqual(paper, ("less", reason(other, rights, first)))

    def test_of_each_least_room(self):
        kinds = set()
        for basin, rights in rivers():
            for name, _, _, _, _, held, _ in basin[1]:
                with self.subTest((basin, rights, name)):
                    paper = least_room_paper(basin, rights, name)
                    self.assertIs(judge_least_room(basin, rights, name, paper), True)
                    room = least_room(basin, rights, name)
                    self.assertEqual(paper[0], room)
                    if room is None:
                        most = held + oracle.all_water(basin)
                        self.assertEqual(paper[1], room_paper(basin, rights, name, most))
                        kinds.add(None)
                        continue
                    less = None if room == held else room_paper(basin, rights, name, room - 1)
                    self.assertEqual(paper[1], (room_paper(basin, rights, name, room), less))
                    kinds.add(room == held)
                    # of another room it is not taken
                    for other in (room - 1, room + 1):
                        self.assertIs(judge_least_room(basin, rights, name, (other, paper[1])), False)
        self.assertEqual(kinds, {None, True, False})

    def test_above_99(self):
        basin, rights = parse_basin("site s flow 99 99 0\nright a at s wants 0 0 99\nright b at s wants 0 0 70")
        paper = least_room_paper(basin, rights, "s")
        self.assertEqual(paper, (169, (
            ("enough", (((0, 0, 99), (0, 0, 70)), ((0, 0, 0),), ((70, 169, 0),))), ("less", ((0, 2),)),
        )))
        self.assertIs(judge_least_room(basin, rights, "s", paper), True)
        self.assertIs(judge_room(basin, rights, "s", 169, paper[1][0]), True)
        self.assertIs(judge_room(basin, rights, "s", 168, paper[1][0]), False)
        self.assertIs(judge_room(basin, rights, "s", 168, paper[1][1]), True)

    def test_without_rights(self):
        basin = parse_basin("site s room 4 held 2 flow 0")[0]
        paper = (2, (("enough", ((), ((0,),), ((2,),))), None))
        self.assertEqual(least_room_paper(basin, (), "s"), paper)
        self.assertIs(judge_least_room(basin, (), "s", paper), True)

    def test_beyond_the_limits(self):
        basin = (5, (("upper", "lower", 3, None, 0, 0, (3000, 0, 0, 0, 0)), ("lower", None, 0, None, 0, 0, (0,) * 5)))
        rights = tuple((f"right{k}", "lower", (0, 0, 0, 0, 500)) for k in range(5))
        paper = least_room_paper(basin, rights, "upper")
        self.assertEqual(paper[0], 2500)
        self.assertIs(judge_least_room(basin, rights, "upper", paper), True)

    def test_shape(self):
        for _, part in odd.with_parts(least_room_paper(BASIN, RIGHTS, "dale")):
            self.assertIsInstance(part, (tuple, str, int))
        for _, part in odd.with_parts(room_paper(BASIN, RIGHTS, "dale", 1)):
            self.assertIsInstance(part, (tuple, str, int))


if __name__ == "__main__":
    unittest.main()
