"""b1, b2 (and c1 to c3): texts of basins, both ways, and what is refused."""

import itertools
import unittest

from heldwater.basintext import basin_text, parse_basin
from heldwater.errors import BadBasin

LAST = ("low", None, 0, None, 0, 0, (0,))


class Texts(unittest.TestCase):
    def both_ways(self, text, basin, rights):
        with self.subTest(text):
            self.assertEqual(basin_text(basin, rights), text)
            self.assertEqual(parse_basin(text), (basin, rights))

    def test_one_site(self):
        self.both_ways("site a flow 5", (1, (("a", None, 0, None, 0, 0, (5,)),)), ())
        self.both_ways("site abcdef room 7 held 7 flow 0", (1, (("abcdef", None, 0, None, 7, 7, (0,)),)), ())

    def test_each_piece_left_out_and_written(self):
        choices = ((0, 1, 2), (None, 0, 1, 99), ((0, 0), (1, 0), (1, 1), (99, 0), (99, 99), (10, 9)))
        for travel, reach, (room, held) in itertools.product(*choices):
            words = "site up to low"
            words += f" in {travel}" if travel else ""
            words += "" if reach is None else f" reach {reach}"
            words += f" room {room}" if room else ""
            words += f" held {held}" if held else ""
            basin = (1, (("up", "low", travel, reach, room, held, (3,)), LAST))
            self.both_ways(words + " flow 3\nsite low flow 0", basin, ())

    def test_a_reach_of_0_is_a_limit(self):
        basin, _ = parse_basin("site up to low reach 0 flow 1\nsite low flow 0")
        self.assertEqual(basin[1][0][3], 0)
        basin, _ = parse_basin("site up to low flow 1\nsite low flow 0")
        self.assertIsNone(basin[1][0][3])

    def test_four_sites_months_and_rights(self):
        text = "\n".join([
            "site a to d in 2 reach 99 room 99 held 99 flow 0 99 10 9",
            "site b to c in 1 flow 1 2 3 4",
            "site c to d reach 0 room 5 flow 99 99 99 99",
            "site d room 1 held 1 flow 0 0 0 0",
            "right e at a wants 99 0 1 2",
            "right a at d wants 0 0 0 0",
            "right zzzzzz at d wants 9 10 98 99",
            "right q at c wants 5 5 5 5",
        ])
        self.both_ways(text, (4, (
            ("a", "d", 2, 99, 99, 99, (0, 99, 10, 9)),
            ("b", "c", 1, None, 0, 0, (1, 2, 3, 4)),
            ("c", "d", 0, 0, 5, 0, (99, 99, 99, 99)),
            ("d", None, 0, None, 1, 1, (0, 0, 0, 0)),
        )), (
            ("e", "a", (99, 0, 1, 2)), ("a", "d", (0, 0, 0, 0)),
            ("zzzzzz", "d", (9, 10, 98, 99)), ("q", "c", (5, 5, 5, 5)),
        ))

    def test_each_number_of_months(self):
        for months in (1, 2, 3, 4):
            numbers = tuple(range(months))
            row = " ".join(str(n) for n in numbers)
            self.both_ways(
                f"site s flow {row}\nright r at s wants {row}",
                (months, (("s", None, 0, None, 0, 0, numbers),)), (("r", "s", numbers),),
            )

    def test_names_that_are_words_of_lines(self):
        text = "\n".join([
            "site to to in in 1 reach 2 room 3 held 3 flow 1",
            "site in to flow flow 1",
            "site flow to site flow 1",
            "site site flow 1",
            "right wants at to wants 1",
            "right at at flow wants 1",
        ])
        self.both_ways(text, (1, (
            ("to", "in", 1, 2, 3, 3, (1,)), ("in", "flow", 0, None, 0, 0, (1,)),
            ("flow", "site", 0, None, 0, 0, (1,)), ("site", None, 0, None, 0, 0, (1,)),
        )), (("wants", "to", (1,)), ("at", "flow", (1,))))

    def test_shapes_are_tuples(self):
        basin, rights = parse_basin("site up to low flow 1 2\nsite low flow 0 0\nright a at low wants 1 1")
        parts = [basin, basin[1], *basin[1], basin[1][0][6], rights, rights[0], rights[0][2]]
        self.assertTrue(all(isinstance(part, tuple) for part in parts))
        self.assertIsInstance(parse_basin("site low flow 1"), tuple)

    def test_beyond_the_limits(self):
        basin = (5, (("longer", "lowest", 3, 100, 100, 100, (100,) * 5), ("lowest", None, 0, None, 0, 0, (0,) * 5)))
        self.assertEqual(
            basin_text(basin, ()),
            "site longer to lowest in 3 reach 100 room 100 held 100 flow 100 100 100 100 100\n"
            "site lowest flow 0 0 0 0 0",
        )


SITES = ["site up to low in 1 reach 3 room 4 held 2 flow 5 0", "site low flow 0 0"]
RIGHTS = ["right a at low wants 2 4", "right b at up wants 1 1"]

NOT_SITES = [
    # other spaces
    " site low flow 0 0", "site low flow 0 0 ", "site  low flow 0 0", "site low  flow 0 0", "site low flow  0 0",
    "site low flow 0  0", "site\tlow flow 0 0", "site low flow 0\t0", "site low flow 0 0\r", "site low flow 0\u00a00",
    "site low flow 0 0\x0b", "sitelow flow 0 0", "site low flow0 0",
    # other words
    "", " ", "site", "site low", "site low flow", "site low flow ", "flow 0 0", "low flow 0 0", "Site low flow 0 0",
    "site low Flow 0 0", "place low flow 0 0", "site low wants 0 0", "site low flow 0 0 flow 0 0",
    "site low flow 0 flow 0", "site flow 0 0", "site to low flow 0 0", "site low deep 4 flow 0 0",
    "# site low flow 0 0",
    # names
    "site lowlowl flow 0 0", "site Low flow 0 0", "site lo1 flow 0 0", "site l-w flow 0 0", "site l\u00f6w flow 0 0",
    "site lo\u00aa flow 0 0", "site lo_w flow 0 0", "site  flow 0 0", "site 1 flow 0 0",
    "site low to  flow 0 0", "site low to Mouth flow 0 0", "site low to mouths1 flow 0 0",
    "site low to mouthso flow 0 0", "site low to mo2 flow 0 0", "site low to flow 0 0",
    # numbers
    "site low flow 00 0", "site low flow 0 01", "site low flow -1 0", "site low flow +1 0", "site low flow 1.0 0",
    "site low flow 100 0", "site low flow 0 100", "site low flow 0 1000000000000", "site low flow x 0",
    "site low flow \u0661 0", "site low flow \u00b2 0", "site low flow 1_0 0", "site low flow -0 0",
    "site low flow 0 " + "9" * 5000,
    # how many numbers
    "site low flow 0", "site low flow 0 0 0", "site low flow 0 0 0 0 0",
    # pieces of a site with a next one
    "site low to mouth in 0 flow 0 0", "site low to mouth in 3 flow 0 0", "site low to mouth in 01 flow 0 0",
    "site low to mouth in flow 0 0", "site low to mouth in 1 in 1 flow 0 0", "site low to mouth in x flow 0 0",
    "site low to mouth reach 100 flow 0 0", "site low to mouth reach 00 flow 0 0",
    "site low to mouth reach none flow 0 0", "site low to mouth reach -1 flow 0 0",
    "site low to mouth reach 3 in 1 flow 0 0", "site low in 1 to mouth flow 0 0",
    "site low reach 3 to mouth flow 0 0", "site low to mouth to mouth flow 0 0",
    "site low to mouth reach 3 reach 3 flow 0 0",
    # what an outlet does not have
    "site low in 1 flow 0 0", "site low reach 3 flow 0 0", "site low reach 0 flow 0 0",
    "site low in 1 reach 3 flow 0 0", "site low in 0 flow 0 0",
    # rooms and what is held
    "site low room 0 flow 0 0", "site low room 100 flow 0 0", "site low room 01 flow 0 0", "site low room flow 0 0",
    "site low room 3 held 0 flow 0 0", "site low held 0 flow 0 0", "site low room 3 held 01 flow 0 0",
    "site low held 2 room 3 flow 0 0", "site low room 3 room 3 flow 0 0", "site low room 3 held 1 held 1 flow 0 0",
    "site low room 3 to mouth flow 0 0", "site low held 1 to mouth room 3 flow 0 0",
    "site low to mouth room 3 in 1 flow 0 0", "site low to mouth room 3 reach 3 flow 0 0",
    "site low to mouth held 1 reach 3 flow 0 0", "site low room 3 held -1 flow 0 0", "site low room 3 held flow 0 0",
    "site low flow 0 0 room 3", "site low room 3 flow", "site low flow 0 room 3 0",
]

NOT_RIGHTS = [
    " right a at low wants 2 4", "right a at low wants 2 4 ", "right  a at low wants 2 4", "right a  at low wants 2 4",
    "right a at low  wants 2 4", "right a at low wants  2 4", "right a at low wants 2  4", "right\ta at low wants 2 4",
    "right", "right a", "right a at low", "right a at low wants", "right a at low wants ", "right a wants 2 4",
    "right a low wants 2 4", "right a wants 2 4 at low", "right a in low wants 2 4", "Right a at low wants 2 4",
    "right a at low flow 2 4", "right a At low wants 2 4", "right at low wants 2 4", "right a at wants 2 4",
    "right a at low at low wants 2 4", "right a at low wants 2 4 wants 2 4", "a at low wants 2 4",
    "right aaaaaaa at low wants 2 4", "right A at low wants 2 4", "right a1 at low wants 2 4",
    "right \u00e9 at low wants 2 4", "right  at low wants 2 4", "right a at  wants 2 4", "right a at LOW wants 2 4",
    "right a at lowlowl wants 2 4", "right a at lo2 wants 2 4",
    "right a at low wants 2 04", "right a at low wants 02 4", "right a at low wants 2 -4", "right a at low wants 2 100",
    "right a at low wants 2 x", "right a at low wants 2 \u00b2", "right a at low wants 2", "right a at low wants 2 4 6",
    "right a at low wants 2 " + "1" * 5000,
]


class Refused(unittest.TestCase):
    def refused(self, lines, line, reason):
        with self.subTest(lines), self.assertRaises(BadBasin) as caught:
            parse_basin("\n".join(lines))
        self.assertEqual((caught.exception.line, caught.exception.reason), (line, reason), lines)

    def test_what_stands_in_no_list_is_taken(self):
        self.assertEqual(len(parse_basin("\n".join(SITES + RIGHTS))[1]), 2)

    def test_the_empty_text_and_texts_without_sites(self):
        self.refused([""], 1, "not a line")
        self.refused(["", ""], 1, "not a line")
        self.refused(RIGHTS, 1, "not a line")
        self.refused(RIGHTS[:1] + SITES, 1, "not a line")

    def test_a_newline_ahead_behind_or_between(self):
        self.refused(SITES + [""], 3, "not a line")
        self.refused(SITES + RIGHTS + [""], 5, "not a line")
        self.refused([""] + SITES, 1, "not a line")
        self.refused(SITES + ["", RIGHTS[0]], 3, "not a line")
        self.refused([SITES[0] + "\r", SITES[1]], 1, "not a line")

    def test_not_the_line_of_a_site(self):
        for line in NOT_SITES:
            self.refused([SITES[0], line], 2, "not a line")
            self.refused([SITES[0], line] + RIGHTS, 2, "not a line")

    def test_not_the_first_line(self):
        for line in NOT_SITES:
            if line not in ("site low flow 0", "site low flow 0 0 0"):
                self.refused([line], 1, "not a line")

    def test_not_the_line_of_a_right(self):
        for line in NOT_RIGHTS:
            self.refused(SITES + [line], 3, "not a line")
            self.refused(SITES + [RIGHTS[1], line], 4, "not a line")

    def test_months_of_the_first_line(self):
        self.refused(["site low flow 1 2 3 4 5"], 1, "not a line")
        self.refused(["site low flow"], 1, "not a line")
        self.refused(["site up to low flow 1 2 3", "site low flow 1 2"], 2, "not a line")
        self.refused(["site up to low flow 1 2", "site low flow 1 2 3"], 2, "not a line")
        self.refused(["site low flow 1 2", "right a at low wants 1"], 2, "not a line")

    def test_site_behind_a_right(self):
        self.refused([SITES[1], RIGHTS[0], "site low flow 0 0"], 3, "site behind a right")
        self.refused(SITES + RIGHTS + ["site mouth flow 0 0"], 5, "site behind a right")

    def test_too_many_sites(self):
        self.refused([f"site {a} to e flow 0" for a in "abcd"] + ["site e flow 0"], 5, "too many sites")
        self.refused([f"site {a} to e flow 0" for a in "abcd"] + ["site e flow 0", "site f flow 0"], 5,
                     "too many sites")

    def test_name_of_a_site_twice(self):
        self.refused(["site a to b flow 0", "site a flow 0"], 2, "name twice")
        self.refused(["site a to c flow 0", "site b to c flow 0", "site a to c flow 0"], 3, "name twice")

    def test_held_above_room(self):
        self.refused(["site a held 1 flow 0"], 1, "held above room")
        self.refused(["site a room 4 held 5 flow 0"], 1, "held above room")
        self.refused(["site a to b flow 0", "site b room 98 held 99 flow 0"], 2, "held above room")
        self.refused(["site a room 99 held 100 flow 0"], 1, "held above room")
        self.refused(["site a room 99 held 1000000000 flow 0"], 1, "held above room")
        self.refused(["site a held " + "8" * 5000 + " flow 0"], 1, "held above room")

    def test_no_such_site(self):
        self.refused(SITES + ["right a at sea wants 1 1"], 3, "no such site")
        self.refused(SITES + [RIGHTS[0], "right b at a wants 1 1"], 4, "no such site")

    def test_too_many_rights(self):
        rows = ["site s flow 0"] + [f"right {a} at s wants 0" for a in "abcde"]
        self.assertEqual(len(parse_basin("\n".join(rows[:-1]))[1]), 4)
        self.refused(rows, 6, "too many rights")

    def test_name_of_a_right_twice(self):
        self.refused(SITES + RIGHTS + ["right b at low wants 0 0"], 5, "name twice")
        self.refused(SITES + [RIGHTS[0], RIGHTS[0]], 4, "name twice")

    def test_a_right_may_be_called_as_a_site(self):
        self.assertEqual(parse_basin("site s flow 1\nright s at s wants 1")[1], (("s", "s", (1,)),))

    def test_next_is_not_later(self):
        self.refused(["site a flow 0", "site b flow 0"], 1, "next is not later")
        self.refused(["site a to a flow 0", "site b flow 0"], 1, "next is not later")
        self.refused(["site a to x flow 0", "site b flow 0"], 1, "next is not later")
        self.refused(["site a to b flow 0", "site b to a flow 0", "site c flow 0"], 2, "next is not later")
        self.refused(["site a to c flow 0", "site b flow 0", "site c flow 0"], 2, "next is not later")

    def test_outlet_leads_on(self):
        self.refused(["site a to b flow 0"], 1, "outlet leads on")
        self.refused(["site a to a flow 0"], 1, "outlet leads on")
        self.refused(["site a to b flow 0", "site b to a flow 0"], 2, "outlet leads on")
        self.refused(["site a to b flow 0", "site b to sea reach 1 flow 0", "right r at a wants 1"], 2,
                     "outlet leads on")


class Order(unittest.TestCase):
    """The first reason within a line, then line by line, then those of the whole."""

    refused = Refused.refused

    def test_not_a_line_is_ahead_of_all_in_a_line(self):
        self.refused(SITES + RIGHTS[:1] + ["site low held 1 flow 0"], 4, "not a line")
        self.refused([f"site {a} to d flow 0" for a in "abcd"] + ["site a held 0 flow 0"], 5, "not a line")
        self.refused(SITES + ["right a at sea wants 1"], 3, "not a line")
        self.refused(["site a to b room 1 held 2 flow 0 100"], 1, "not a line")

    def test_site_behind_a_right_is_ahead(self):
        sites = [f"site {a} to d flow 0" for a in "abc"] + ["site d flow 0"]
        rest = ["right r at a wants 0", "site a held 1 flow 0"]
        self.refused(sites + rest, 6, "site behind a right")
        self.refused(["site a flow 0"] + rest, 3, "site behind a right")
        self.refused(["site a flow 0", rest[0], "site b held 1 flow 0"], 3, "site behind a right")

    def test_too_many_sites_is_ahead_of_name_twice(self):
        self.refused([f"site {a} to d flow 0" for a in "abcd"] + ["site a flow 0"], 5, "too many sites")
        self.refused([f"site {a} to d flow 0" for a in "abcd"] + ["site e held 1 flow 0"], 5, "too many sites")

    def test_name_twice_is_ahead_of_held_above_room(self):
        self.refused(["site a to b flow 0", "site a held 1 flow 0"], 2, "name twice")

    def test_no_such_site_is_ahead_of_too_many_rights(self):
        rows = ["site s flow 0"] + [f"right {a} at s wants 0" for a in "abcd"]
        self.refused(rows + ["right e at sea wants 0"], 6, "no such site")
        self.refused(rows + ["right a at sea wants 0"], 6, "no such site")

    def test_too_many_rights_is_ahead_of_name_twice(self):
        rows = ["site s flow 0"] + [f"right {a} at s wants 0" for a in "abcd"]
        self.refused(rows + ["right a at s wants 0"], 6, "too many rights")

    def test_line_by_line(self):
        self.refused(["site a held 1 flow 0", "site a x flow 0"], 1, "held above room")
        self.refused(["site a to b flow 0", "site a flow 0", ""], 2, "name twice")
        self.refused(["site a flow 0", "right r at sea wants 0", "right r at a wants 100"], 2, "no such site")
        self.refused(["site a flow 0", "right r at a wants 0", "right r at a wants 0", "site b flow 0"], 3,
                     "name twice")

    def test_the_whole_is_behind_all_lines(self):
        self.refused(["site a to x flow 0", "site b flow 0", "right r at sea wants 0"], 3, "no such site")
        self.refused(["site a to b flow 0", "right r at a wants 0", ""], 3, "not a line")
        self.refused(["site a flow 0", "site b held 1 flow 0"], 2, "held above room")

    def test_the_whole_goes_by_the_first_site(self):
        self.refused(["site a to x flow 0", "site b to a flow 0"], 1, "next is not later")
        self.refused(["site a to b flow 0", "site b to x flow 0", "site c to x flow 0"], 2, "next is not later")
        self.refused(["site a flow 0", "site b to c flow 0"], 1, "next is not later")


if __name__ == "__main__":
    unittest.main()
