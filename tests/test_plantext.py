"""v1 to v3: texts of plans and certificates, both ways, and what is refused, with which line."""

import unittest

import oracle
from heldwater.basintext import parse_basin
from heldwater.errors import BadPlan
from heldwater.papers import certificate_fault, make_certificate
from heldwater.plans import plan_fault
from heldwater.plantext import certificate_text, parse_certificate, parse_plan, plan_text

BASIN, RIGHTS = parse_basin(
    "site up to low in 1 reach 3 room 4 flow 5 0\nsite low room 1 flow 0 1\n"
    "right a at low wants 1 3\nright b at up wants 2 4"
)
LINES = [
    "give a 0 10", "give b 2 9999", "let up 3 0", "store up 12 4", "let low 0 1", "store low 345 6",
]
PLAN = (((0, 10), (2, 9999)), ((3, 0), (0, 1)), ((12, 4), (345, 6)))
REGION_LINES = ["region up/0", "region up/0 low/0 up/1 low/1", "region low/0 up/1"]
REGIONS = (((0, 0),), ((0, 0), (1, 0), (0, 1), (1, 1)), ((1, 0), (0, 1)))


def wide_basin(sites, months, rights):
    """A basin with so many sites, months and rights, and a plan for it."""
    names = ["a", "bb", "ccc", "dddddd"]
    rows = [(name, "dddddd", 0, None, 9, 0, (1,) * months) for name in names[4 - sites:3]]
    rows.append(("dddddd", None, 0, None, 9, 0, (1,) * months))
    owners = tuple((name, "dddddd", (1,) * months) for name in ("give", "let", "store", "region")[:rights])
    amounts = iter([0, 9999, 1, 10, 99, 100, 999, 1000, 9, 90] * 6)
    table = [tuple(tuple(next(amounts) for _ in range(months)) for _ in range(many)) for many in (rights, sites, sites)]
    return (months, tuple(rows)), owners, tuple(table)


class Refusals(unittest.TestCase):
    def refused(self, parse, text, line):
        with self.subTest((parse.__name__, text)):
            with self.assertRaises(BadPlan) as caught:
                parse(BASIN, RIGHTS, text)
            self.assertEqual(caught.exception.reason, f"line {line}")

    def both_refused(self, text, line):
        self.refused(parse_plan, text, line)
        self.refused(parse_certificate, text, line)


class Texts(unittest.TestCase):
    def test_a_plan(self):
        text = "\n".join(LINES)
        self.assertEqual(plan_text(BASIN, RIGHTS, PLAN), text)
        self.assertEqual(parse_plan(BASIN, RIGHTS, text), PLAN)

    def test_a_certificate(self):
        text = "\n".join(LINES + REGION_LINES)
        self.assertEqual(certificate_text(BASIN, RIGHTS, (PLAN, REGIONS)), text)
        self.assertEqual(parse_certificate(BASIN, RIGHTS, text), (PLAN, REGIONS))

    def test_a_certificate_without_regions(self):
        text = "\n".join(LINES)
        self.assertEqual(certificate_text(BASIN, RIGHTS, (PLAN, ())), text)
        self.assertEqual(parse_certificate(BASIN, RIGHTS, text), (PLAN, ()))

    def test_each_region(self):
        for basin in (BASIN, wide_basin(4, 2, 0)[0], wide_basin(2, 4, 0)[0]):
            plan = ((), *(tuple((0,) * basin[0] for _ in basin[1]) for _ in "ab"))
            every = tuple(oracle.all_regions(basin))
            self.assertEqual(parse_certificate(basin, (), certificate_text(basin, (), (plan, every))), (plan, every))

    def test_each_number_of_sites_months_and_rights(self):
        for sites in (1, 2, 3, 4):
            for months in (1, 2, 3, 4):
                for rights in (0, 1, 2, 3, 4):
                    basin, owners, plan = wide_basin(sites, months, rights)
                    text = plan_text(basin, owners, plan)
                    self.assertEqual(len(text.split("\n")), rights + 2 * sites)
                    self.assertEqual(parse_plan(basin, owners, text), plan)
                    regions = (tuple(oracle.cells(basin)), ((0, months - 1),))
                    text = certificate_text(basin, owners, (plan, regions))
                    self.assertEqual(len(text.split("\n")), rights + 2 * sites + 2)
                    self.assertEqual(parse_certificate(basin, owners, text), (plan, regions))

    def test_names_that_are_words_of_lines(self):
        basin, rights = parse_basin("site let to store flow 1\nsite store flow 2\nright give at let wants 3")
        plan = (((1,),), ((2,), (3,)), ((4,), (5,)))
        text = "give give 1\nlet let 2\nstore let 4\nlet store 3\nstore store 5"
        self.assertEqual(plan_text(basin, rights, plan), text)
        self.assertEqual(parse_plan(basin, rights, text), plan)

    def test_a_right_may_be_called_as_a_site(self):
        basin, rights = parse_basin("site a to b flow 1\nsite b flow 2\nright b at a wants 3\nright a at a wants 3")
        plan = (((1,), (7,)), ((2,), (3,)), ((4,), (5,)))
        text = "give b 1\ngive a 7\nlet a 2\nstore a 4\nlet b 3\nstore b 5"
        self.assertEqual(plan_text(basin, rights, plan), text)
        self.assertEqual(parse_plan(basin, rights, text), plan)

    def test_what_is_made(self):
        for basin, rights in oracle.middle_rivers(51, 30):
            certificate = make_certificate(basin, rights)
            text = certificate_text(basin, rights, certificate)
            self.assertEqual(parse_certificate(basin, rights, text), certificate)
            self.assertEqual(text.count("\n") + 1, len(rights) + 2 * len(basin[1]) + len(certificate[1]))
            plan = plan_text(basin, rights, certificate[0])
            self.assertEqual(parse_plan(basin, rights, plan), certificate[0])
            self.assertEqual((text + "\n").find(plan + "\n"), 0)

    def test_nothing_is_said_of_whether_a_plan_is_right(self):
        self.assertIsNotNone(plan_fault(BASIN, RIGHTS, PLAN))
        text = "\n".join(line.split(" ")[0] + " " + line.split(" ")[1] + " 9999 9999" for line in LINES)
        nines = ((9999, 9999),) * 2
        self.assertEqual(parse_plan(BASIN, RIGHTS, text), (nines, nines, nines))

    def test_nothing_is_said_of_whether_a_region_holds_no_more(self):
        plan, regions = make_certificate(BASIN, RIGHTS)
        others = (((0, 1),),) * 9
        self.assertEqual(certificate_fault(BASIN, RIGHTS, (plan, others)), ("regions",))
        text = certificate_text(BASIN, RIGHTS, (plan, others))
        self.assertEqual(parse_certificate(BASIN, RIGHTS, text), (plan, others))
        others = (((1, 1),),) * len(regions)
        self.assertEqual(certificate_fault(BASIN, RIGHTS, (plan, others)), ("region", 0))
        text = certificate_text(BASIN, RIGHTS, (plan, others))
        self.assertEqual(parse_certificate(BASIN, RIGHTS, text), (plan, others))

    def test_shape(self):
        plan, regions = parse_certificate(BASIN, RIGHTS, "\n".join(LINES + REGION_LINES))
        for part in (*plan, *plan[0], *plan[1], *plan[2], regions, *regions, *regions[1]):
            self.assertIsInstance(part, tuple)
        self.assertEqual(parse_plan(BASIN, (), "\n".join(LINES[2:])), ((),) + PLAN[1:])

    def test_beyond_the_limits(self):
        sites = [(f"dam{k}", f"dam{k + 1}", 3, 100, 500, 0, (200,) * 5) for k in range(5)]
        basin = (5, tuple(sites) + (("dam5", None, 0, None, 0, 0, (0,) * 5),))
        rights = tuple((f"right{k}", "dam5", (200,) * 5) for k in range(6))
        certificate = make_certificate(basin, rights)
        self.assertEqual(parse_certificate(basin, rights, certificate_text(basin, rights, certificate)), certificate)
        everything = (tuple(oracle.cells(basin)),)
        text = certificate_text(basin, rights, (certificate[0], everything))
        self.assertEqual(parse_certificate(basin, rights, text), (certificate[0], everything))
        # no bound is set for what is written
        self.assertEqual(plan_text(BASIN, (), ((),) + ((((123456, 0), (0, 0)),) * 2)).split("\n")[0], "let up 123456 0")


class PlanLines(Refusals):
    def turned(self, line):
        """The line with one thing turned, in many ways."""
        word, name, first, second = line.split(" ")
        numbers = f"{first} {second}"
        lines = [""]
        for other in ("give", "let", "store", "region", "right", "site", "Give", word.upper(), word + "s", word[:-1]):
            if other != word:
                lines.append(f"{other} {name} {numbers}")
        for other in ("a", "b", "up", "low", "c", "A", name + name, name.upper(), "1", "", name + "/0"):
            if other != name:
                lines.append(f"{word} {other} {numbers}")
        lines += [f"{word} {name} {first}", f"{word} {name} {numbers} 0", f"{word} {name}", f"{word} {name} {numbers} x"]
        for other in (
            "00", "01", "007", "+1", "-1", "-0", "10000", "99999", "1.0", "x", "", "1e3", "0x1", "1_0", "\u0661", "\u00b2",
            "True", "None", "1,000", "9" * 30, "0" * 5000, "9" * 5000, "1/0",
        ):
            lines += [f"{word} {name} {other} {second}", f"{word} {name} {first} {other}"]
        lines += [" " + line, line + " ", "  " + line, line + "  ", "\t" + line, line + "\t", line + "\r", line + "\x0b"]
        for k, character in enumerate(line):
            if character == " ":
                lines += [line[:k] + between + line[k + 1:] for between in ("  ", "\t", "", "\u00a0", ",", " \t", "\r")]
        lines += [f"{name} {word} {numbers}", f"{word} {numbers} {name}", f"{word} {numbers}", f"{name} {numbers}", word,
                  "#" + line, line + " # more", line.replace(" ", "\n", 1)]
        return lines

    def test_one_thing_turned(self):
        for k, line in enumerate(LINES):
            for other in self.turned(line):
                self.assertNotEqual(other, line)
                lines = LINES[:k] + [other] + LINES[k + 1:]
                self.both_refused("\n".join(lines), k + 1)
                self.refused(parse_certificate, "\n".join(lines + REGION_LINES), k + 1)

    def test_the_first_of_two(self):
        self.both_refused("\n".join(LINES[:2] + ["let up 3 x", "store up 1 -1"] + LINES[4:]), 3)
        self.both_refused("\n".join(LINES[:5] + ["store low 345 06", "region up/9"]), 6)

    def test_each_amount(self):
        for amount in (0, 1, 9, 10, 99, 100, 999, 1000, 1234, 9998, 9999):
            for k in range(6):
                lines = LINES[:k] + [" ".join(LINES[k].split(" ")[:2] + [str(amount), "0"])] + LINES[k + 1:]
                rows = [row for row in parse_plan(BASIN, RIGHTS, "\n".join(lines))]
                flat = [rows[0][0], rows[0][1], rows[1][0], rows[2][0], rows[1][1], rows[2][1]]
                self.assertEqual(flat[k], (amount, 0))

    def test_a_line_left_out(self):
        for k in range(5):
            self.both_refused("\n".join(LINES[:k] + LINES[k + 1:]), k + 1)
            self.refused(parse_certificate, "\n".join(LINES[:k] + LINES[k + 1:] + REGION_LINES), k + 1)
        self.both_refused("\n".join(LINES[:5]), 6)
        self.refused(parse_certificate, "\n".join(LINES[:5] + REGION_LINES), 6)

    def test_a_line_doubled(self):
        for k in range(6):
            self.both_refused("\n".join(LINES[:k + 1] + LINES[k:]), k + 2)
            self.refused(parse_certificate, "\n".join(LINES[:k + 1] + LINES[k:] + REGION_LINES), k + 2)

    def test_two_lines_exchanged(self):
        for k in range(6):
            for j in range(k):
                lines = list(LINES)
                lines[j], lines[k] = lines[k], lines[j]
                self.both_refused("\n".join(lines), j + 1)

    def test_an_empty_line_between(self):
        for k in range(6):
            self.both_refused("\n".join(LINES[:k] + [""] + LINES[k:]), k + 1)
            self.both_refused("\n".join(LINES[:k] + [" "] + LINES[k:]), k + 1)

    def test_a_newline_at_the_end(self):
        self.both_refused("\n".join(LINES) + "\n", 7)
        self.both_refused("\n".join(LINES) + "\n\n", 7)

    def test_a_line_too_many(self):
        for line in LINES + ["more", "let other 0 0", "region", "region up/2", " "]:
            self.both_refused("\n".join(LINES + [line]), 7)

    def test_a_regions_line_in_a_plan(self):
        for line in REGION_LINES:
            self.refused(parse_plan, "\n".join(LINES + [line]), 7)
        self.refused(parse_plan, "\n".join(LINES + REGION_LINES), 7)
        for k in range(6):
            self.both_refused("\n".join(LINES[:k] + REGION_LINES[:1] + LINES[k:]), k + 1)

    def test_cut_off_behind_a_line(self):
        for k in range(1, 6):
            self.both_refused("\n".join(LINES[:k]), k + 1)
            self.both_refused("\n".join(LINES[:k]) + "\n", k + 1)

    def test_cut_off_within_a_line(self):
        text = "\n".join(LINES)
        for k in range(1, text.rindex(" ") + 2):
            lines = text[:k].split("\n")
            # a line of four pieces is one, so that the next one is lacking
            whole = len([piece for piece in lines[-1].split(" ") if piece]) == 4
            if len(lines) < 6 or not whole:
                self.both_refused(text[:k], len(lines) + whole)

    def test_the_empty_text(self):
        self.both_refused("", 1)
        self.both_refused("\n", 1)
        self.both_refused(" ", 1)
        for parse in (parse_plan, parse_certificate):
            with self.assertRaises(BadPlan) as caught:
                parse(BASIN, (), "")
            self.assertEqual(caught.exception.reason, "line 1")

    def test_the_plan_of_another_basin(self):
        one = parse_basin("site low flow 1")[0]
        for basin, rights, line in (
            (BASIN, RIGHTS[:1], 2), (BASIN, (), 1), (BASIN, RIGHTS[::-1], 1), (BASIN, RIGHTS + RIGHTS[:1], 3), (one, (), 1),
        ):
            with self.assertRaises(BadPlan) as caught:
                parse_plan(basin, rights, "\n".join(LINES))
            self.assertEqual(caught.exception.reason, f"line {line}")

    def test_other_line_ends(self):
        for end in ("\r\n", "\r", "\x0b", "\x0c", "\x1c", "\u2028", "\x85", "\n\r"):
            text = end.join(LINES)
            self.both_refused(text, 2 if end == "\n\r" else 1)


class RegionLines(Refusals):
    def refused_as_region(self, line):
        for k in range(len(REGION_LINES) + 1):
            lines = REGION_LINES[:k] + [line] + REGION_LINES[k:]
            self.refused(parse_certificate, "\n".join(LINES + lines), 7 + k)

    def test_no_cell(self):
        for line in ("region", "region ", "region  ", ""):
            self.refused_as_region(line)

    def test_another_word(self):
        for line in ("Region up/0", "regions up/0", "up/0", " up/0", "reason up/0", "regio up/0", "regionup/0", "give up/0",
                     "give a 0 0", "let up 0 0", "store low 0 0", "region region up/0", "region up 0", "region 0/0"):
            self.refused_as_region(line)

    def test_a_cell_twice(self):
        for line in ("region up/0 up/0", "region up/0 low/0 low/0", "region up/0 low/0 up/0",
                     "region up/0 low/0 up/1 low/1 low/1"):
            self.refused_as_region(line)

    def test_out_of_order(self):
        for line in ("region low/0 up/0", "region up/1 low/0", "region low/1 up/1", "region up/0 up/1 low/0",
                     "region up/0 low/0 low/1 up/1", "region up/1 up/0"):
            self.refused_as_region(line)

    def test_cells_that_are_not_there(self):
        for cell in ("up/2", "low/2", "up/10", "mid/0", "a/0", "b/1", "Up/0", "UP/0", "ups/0", "u/0", "/0", "up/", "/", "up",
                     "0", "up/-1", "up/" + "1" * 5000):
            self.refused_as_region(f"region {cell}")
            self.refused_as_region(f"region {cell} low/1")
            self.refused_as_region(f"region up/0 {cell}")

    def test_other_writings_of_a_month(self):
        for month in ("00", "01", "+0", "-0", "0.0", "x", "\u0660", "\u00b9", " 0", "0 ", "None", "True", "0/0", "0/"):
            self.refused_as_region(f"region up/{month}")

    def test_another_sign(self):
        for sign in ("", "-", ":", "\\", "//", ",", ".", "|", " / ", "/ ", " /", "\u2215", "_", " "):
            self.refused_as_region(f"region up{sign}0")
            self.refused_as_region(f"region up/0 low{sign}1")

    def test_other_spaces(self):
        for line in (" region up/0", "region  up/0", "region up/0 ", "region up/0  low/0", "region\tup/0", "region up/0\tlow/0",
                     "region up/0,low/0", "region up/0\r", "region up/0\t", "\tregion up/0", "region\u00a0up/0"):
            self.refused_as_region(line)

    def test_a_newline_at_the_end_or_an_empty_line(self):
        self.refused(parse_certificate, "\n".join(LINES + REGION_LINES) + "\n", 10)
        self.refused(parse_certificate, "\n".join(LINES + [""] + REGION_LINES), 7)

    def test_a_plans_line_behind_a_region(self):
        for line in LINES:
            self.refused(parse_certificate, "\n".join(LINES + REGION_LINES[:1] + [line]), 8)

    def test_lines_in_any_order_and_any_number(self):
        for order in ((0, 1, 2), (2, 1, 0), (1, 1), (0, 0, 0, 0), (2,)):
            text = "\n".join(LINES + [REGION_LINES[k] for k in order])
            self.assertEqual(parse_certificate(BASIN, RIGHTS, text), (PLAN, tuple(REGIONS[k] for k in order)))


if __name__ == "__main__":
    unittest.main()
