"""Point 22: what a desk answers."""

import unittest

from carvebed.beds import carved
from carvebed.desk import Desk
from carvebed.plain import run_plainly
from carvebed.programs import read
from carvebed.reach import had
from tests.helper import Draws, desk_told, exact, flat, text_of

CUT = ("row hold 0", "row slow z 450", "row slow x 2")


def square(side):
    return [(dx, dy) for dx in range(-side, side + 1) for dy in range(-side, side + 1)]


class DeskTest(unittest.TestCase):
    def assert_answers(self, desk, *pairs):
        for row, answer in pairs:
            self.assertEqual(exact(desk.say(row)), exact(answer), row)


class BedTest(DeskTest):
    def test_width_and_depth(self):
        self.assert_answers(Desk(), ("bed 3 2 500", "ok"), ("show", "500 500 500\n500 500 500"))
        self.assert_answers(Desk(), ("bed 2 3 7", "ok"), ("show", "7 7\n7 7\n7 7"), ("cell 1 2", "7"))

    def test_the_bounds(self):
        self.assert_answers(Desk(), ("bed 1 1 0", "ok"), ("show", "0"), ("cell 0 0", "0"))
        self.assert_answers(Desk(), ("bed 40 40 1000", "ok"), ("show", text_of(*[" ".join(["1000"] * 40)] * 40)))
        self.assert_answers(Desk(), ("bed 1 40 1", "ok"), ("show", text_of(*["1"] * 40)), ("cell 0 39", "1"))
        self.assert_answers(Desk(), ("bed 40 1 1", "ok"), ("show", " ".join(["1"] * 40)), ("cell 39 0", "1"))

    def test_rows_of_the_bed_are_apart(self):
        desk = desk_told("bed 2 3 500", "cutter 100 0", "row hold 0", "row slow z 400")
        self.assert_answers(desk, ("carve", "done 100"), ("show", "400 500\n500 500\n500 500"))

    def test_a_new_bed_takes_away_cutters_and_program_rows(self):
        desk = desk_told("bed 3 2 500", "cutter 100 0", "cutter 100 2", *CUT)
        self.assert_answers(desk, ("carve", "done 150"), ("bed 2 1 300", "ok"), ("show", "300 300"))
        # One cutter alone is on the shelf then, the new one, and the rows are those told since.
        self.assert_answers(desk, ("cutter 40 1", "ok"), ("row hold 1", "ok"), ("carve", "fault shelf 0"),
                            ("drop", "ok"), ("row hold 0", "ok"), ("row slow z 260", "ok"), ("carve", "done 80"))

    def test_six_cutters_again_with_each_bed(self):
        desk = Desk()
        for turn in range(3):
            self.assert_answers(desk, ("bed 3 3 9", "ok"), *[("cutter 1 1", "ok")] * 6)


class CutterTest(DeskTest):
    def test_the_foot(self):
        for side, shown in ((0, "9 9 9 9 9 9\n9 9 9 9 9 9\n9 9 9 5 9 9\n9 9 9 9 9 9\n9 9 9 9 9 9"),
                            (1, "9 9 9 9 9 9\n9 9 5 5 5 9\n9 9 5 5 5 9\n9 9 5 5 5 9\n9 9 9 9 9 9"),
                            (2, "9 5 5 5 5 5\n9 5 5 5 5 5\n9 5 5 5 5 5\n9 5 5 5 5 5\n9 5 5 5 5 5")):
            desk = desk_told("bed 6 5 9", "cutter 4 " + str(side), "row hold 0", "row fast x 3", "row fast y 2",
                             "row slow z 5")
            self.assert_answers(desk, ("carve", "done " + str(4 * (2 * side + 1) ** 2)), ("show", shown))

    def test_the_bite(self):
        for bite, answer in ((1, "fault bite 0"), (99, "fault bite 0"), (100, "done 100"), (1000, "done 100")):
            desk = desk_told("bed 1 1 500", "cutter " + str(bite) + " 0", "row hold 0", "row slow z 400")
            self.assert_answers(desk, ("carve", answer))

    def test_numbered_from_0_in_the_order_told(self):
        for number, taken in ((0, 1), (1, 9), (2, 25), (3, 1), (4, 9), (5, 25)):
            desk = desk_told("bed 5 5 9", *["cutter 9 " + str(side) for side in (0, 1, 2, 0, 1, 2)])
            self.assert_answers(desk, ("row hold " + str(number), "ok"), ("row fast x 2", "ok"), ("row fast y 2", "ok"),
                                ("row slow z 8", "ok"), ("carve", "done " + str(taken)))


class RowsTest(DeskTest):
    def test_rows_stand_behind_one_another(self):
        desk = desk_told("bed 3 2 500", "cutter 100 0")
        self.assert_answers(desk, *[(row, "ok") for row in CUT])
        self.assert_answers(desk, ("carve", "done 150"), ("show", "450 450 450\n500 500 500"))
        self.assert_answers(desk, ("row fast z 1000", "ok"), ("row fast y 1", "ok"), ("row slow z 400", "ok"),
                            ("carve", "done 100"), ("show", "450 450 450\n500 500 400"))

    def test_bodies_over_rows(self):
        desk = desk_told("bed 4 1 500", "cutter 100 0", "row sub down n", "row slow z 500-n", "row fast z 1000", "row end",
                         "row hold 0", "row times n 4", "row fast x n", "row call down n*10", "row end")
        self.assert_answers(desk, ("carve", "done 60"), ("show", "500 490 480 470"))

    def test_any_signs(self):
        for text in ("", " ", "  ", " hold 0", "hold 0 ", "hold  0", "row hold 0", "bed 1 1 1", "!#$&'()*+,-./:;<=>?@[]^_`{|}~",
                     "HOLD 0", "\\", '"', "drop", "x" * 200):
            desk = desk_told("bed 2 2 9", "cutter 9 0", "row hold 0")
            self.assert_answers(desk, ("row " + text, "ok"))
            with self.assertRaises(ValueError):
                desk.say("carve")
            self.assert_answers(desk, ("drop", "ok"), ("row hold 0", "ok"), ("carve", "done 0"))

    def test_drop(self):
        desk = desk_told("bed 3 2 500", "cutter 100 0", *CUT)
        self.assert_answers(desk, ("drop", "ok"), ("drop", "ok"), ("show", "500 500 500\n500 500 500"), ("row hold 0", "ok"),
                            ("row slow z 480", "ok"), ("carve", "done 20"), ("drop", "ok"), ("cell 0 0", "480"),
                            ("row hold 0", "ok"), ("carve", "done 0"))


class CarveTest(DeskTest):
    def test_twice_from_the_bed_as_it_is(self):
        desk = desk_told("bed 3 1 500", "cutter 30 0", "row hold 0", "row slow z 480", "row slow x 1")
        self.assert_answers(desk, ("carve", "done 40"), ("show", "480 480 500"), ("carve", "done 0"),
                            ("show", "480 480 500"), ("row slow z 450", "ok"), ("carve", "done 30"),
                            ("show", "480 450 500"), ("carve", "done 0"))

    def test_a_new_carver_each_time(self):
        # Behind the first carving the cutter is held, and stands low at another place.
        desk = desk_told("bed 3 1 500", "cutter 30 0", "row hold 0", "row fast x 2", "row slow z 480")
        self.assert_answers(desk, ("carve", "done 20"), ("drop", "ok"), ("row slow z 450", "ok"), ("carve", "fault bare 0"),
                            ("drop", "ok"), ("row hold 0", "ok"), ("row slow z 490", "ok"), ("carve", "done 10"),
                            ("show", "490 500 480"))

    def test_each_fault(self):
        ahead = ("row hold 0", "row slow z 490", "row slow x 1")
        for fault, rows in (("shelf", ["hold 1"]), ("shelf", ["hold 0-1"]), ("low", ["hold 0"]), ("out", ["slow x 3"]),
                            ("out", ["fast y by 0-1"]), ("out", ["slow z 1001"]), ("crash", ["fast x 2"]),
                            ("crash", ["fast z 489"]), ("bite", ["slow z 450"])):
            desk = desk_told("bed 3 1 500", "cutter 30 0", *ahead)
            for row in rows:
                desk.say("row " + row)
            desk.say("row slow x 2")
            self.assert_answers(desk, ("carve", "fault " + fault + " 20"), ("show", "490 490 500"), ("cell 1 0", "490"),
                                ("cell 2 0", "500"), ("carve", "fault " + fault + " 0"), ("show", "490 490 500"))
        self.assert_answers(desk_told("bed 3 1 500", "cutter 30 0", "row slow x 2"), ("carve", "fault bare 0"))

    def test_each_stop(self):
        for stop, rows in (("unknown", ["fast x n"]), ("unknown", ["hold done"]), ("big", ["slow z by 999999+2"]), ("big", ["hold 1000*1001"]),
                           ("deep", ["call a"]), ("long", ["times n 3000", "end"])):
            desk = desk_told("bed 3 1 500", "cutter 30 0", "row sub a", "row call a", "row end", "row hold 0",
                             "row slow z 490", "row slow x 1")
            for row in rows:
                desk.say("row " + row)
            desk.say("row slow x 2")
            self.assert_answers(desk, ("carve", "stop " + stop + " 20"), ("show", "490 490 500"), ("cell 0 0", "490"),
                                ("cell 2 0", "500"), ("carve", "stop " + stop + " 0"))

    def test_the_fault_is_ahead_of_the_stop(self):
        for last in ("fast x n", "slow z by 999999+2", "times n 3000"):
            desk = desk_told("bed 3 1 500", "cutter 30 0", "row hold 0", "row slow z 490", "row fast x 1", "row " + last)
            if last.startswith("times"):
                desk.say("row end")
            self.assert_answers(desk, ("carve", "fault crash 10"), ("show", "490 500 500"))

    def test_taken_off_in_all(self):
        desk = desk_told("bed 5 5 1000", "cutter 1000 2", "row hold 0", "row slow z 400", "row slow x 4", "row slow y 4",
                         "row slow x 0")
        self.assert_answers(desk, ("carve", "done 15000"), ("show", text_of(*["400 400 400 400 400"] * 5)))

    def test_drawn_programs(self):
        ends = []
        for seed in range(150):
            draws = Draws(seed)
            width, depth = draws.between(1, 7), draws.between(1, 7)
            cutters = [(draws.among((5, 30, 1000)), draws.below(3)) for turn in range(draws.between(1, 6))]
            shelf = [(square(side), bite) for bite, side in cutters]
            desk = desk_told("bed " + str(width) + " " + str(depth) + " 100",
                             *["cutter " + str(bite) + " " + str(side) for bite, side in cutters])
            bed = flat(width, depth, 100)
            for turn in range(3):
                rows = ["hold " + str(draws.below(len(cutters) + (draws.below(9) == 0)))]
                for number in range(draws.between(1, 9)):
                    rows.append(self.drawn_row(draws, width, depth))
                answers = [desk.say("drop")] + [desk.say("row " + row) for row in rows]
                self.assertEqual(set(answers), {"ok"})
                moves, end = run_plainly(read(text_of(*rows)))
                bed, taken, fault = carved(bed, shelf, moves)
                word = " ".join(["fault", fault[0]] if fault else ["done"] if end == ("done",) else ["stop", end[0]])
                ends.append(word)
                self.assert_answers(desk, ("carve", word + " " + str(sum(taken))),
                                    ("show", text_of(*[" ".join(map(str, row)) for row in bed])))
                x, y = draws.below(width), draws.below(depth)
                wished = [list(row) for row in bed]
                wished[y][x] = 0
                self.assert_answers(desk, ("cell " + str(x) + " " + str(y), str(bed[y][x])),
                                    ("low " + str(x) + " " + str(y), str(had(bed, wished, shelf)[y][x])))
        for word in ("done", "fault crash", "fault bite", "stop unknown"):
            self.assertGreater(ends.count(word), 10, word)

    def drawn_row(self, draws, width, depth):
        what = draws.below(10)
        if what == 0:
            return "let a " + draws.among(("1", "b", "2*3"))
        if what < 4:
            return "slow z " + draws.among(("by 0-4", "90", "85", "70", "1000", "a"))
        axis, many = draws.among((("x", width), ("y", depth)))
        return draws.among(("slow ", "slow ", "slow ", "fast ")) + axis + " " + str(draws.below(many))


class CellsTest(DeskTest):
    def test_cell(self):
        desk = desk_told("bed 3 2 500", "cutter 1000 0", "row hold 0", "row fast x 2", "row slow z 1", "row slow z 1000",
                         "row fast x 0", "row fast y 1", "row slow z 20")
        self.assert_answers(desk, ("carve", "done 979"), ("cell 2 0", "1"), ("cell 0 1", "20"), ("cell 0 0", "500"),
                            ("cell 2 1", "500"), ("show", "500 500 1\n20 500 500"))

    def test_low(self):
        desk = desk_told("bed 3 3 500", "cutter 1000 0")
        self.assert_answers(desk, ("low 1 1", "0"), ("low 0 0", "0"), ("low 2 2", "0"))
        desk = desk_told("bed 3 3 500", "cutter 1000 1", "cutter 3 2")
        self.assert_answers(desk, ("low 1 1", "500"), ("low 0 0", "500"), ("low 2 2", "500"))
        self.assert_answers(desk, ("cutter 1 0", "ok"), ("low 1 1", "0"))

    def test_low_by_what_is_around(self):
        desk = desk_told("bed 6 1 500", "cutter 1000 1", "row hold 0", "row slow z 300", "row slow x 1", "row slow z 1000",
                         "row fast x 4", "row slow z 450")
        self.assert_answers(desk, ("carve", "done 750"), ("show", "300 300 300 450 450 450"))
        # The fourth cell can be had as low as the two ahead of it are, the others as low as they are.
        self.assert_answers(desk, ("low 0 0", "300"), ("low 1 0", "300"), ("low 2 0", "300"), ("low 3 0", "300"),
                            ("low 4 0", "450"), ("low 5 0", "450"))

    def test_low_by_x_and_y(self):
        desk = desk_told("bed 2 5 500", "cutter 1000 1", "row hold 0", "row slow z 100")
        self.assert_answers(desk, ("carve", "done 1600"), ("show", "100 100\n100 100\n500 500\n500 500\n500 500"),
                            ("low 1 0", "100"), ("low 0 1", "100"), ("low 0 2", "500"), ("low 1 4", "500"))

    def test_low_where_the_cell_is_0_already(self):
        self.assert_answers(desk_told("bed 3 3 0", "cutter 1000 1"), ("low 1 1", "0"), ("low 0 0", "0"))
        desk = desk_told("bed 4 1 500", "cutter 1000 1", "row hold 0", "row slow z 0")
        self.assert_answers(desk, ("carve", "done 1000"), ("show", "0 0 500 500"), ("low 0 0", "0"), ("low 1 0", "0"),
                            ("low 2 0", "0"), ("low 3 0", "500"), ("show", "0 0 500 500"))
        desk = desk_told("bed 3 1 500", "cutter 1000 1", "cutter 1000 0", "row hold 1", "row fast x 1", "row slow z 0")
        self.assert_answers(desk, ("carve", "done 500"), ("low 1 0", "0"), ("low 0 0", "0"), ("cell 1 0", "0"))

    def test_low_changes_nothing(self):
        desk = desk_told("bed 3 2 500", "cutter 100 0", *CUT)
        for turn in range(3):
            self.assert_answers(desk, ("low 0 0", "0"), ("low 2 1", "0"), ("show", "500 500 500\n500 500 500"))
        self.assert_answers(desk, ("carve", "done 150"), ("low 2 0", "0"), ("show", "450 450 450\n500 500 500"))


class ApartTest(DeskTest):
    def test_two_desks(self):
        one, other = Desk(), Desk()
        self.assert_answers(one, ("bed 3 2 500", "ok"), ("cutter 100 0", "ok"))
        with self.assertRaises(ValueError):
            other.say("show")
        self.assert_answers(other, ("bed 1 1 9", "ok"), ("cutter 1 0", "ok"), ("row hold 0", "ok"), ("row slow z 8", "ok"))
        self.assert_answers(one, *[(row, "ok") for row in CUT])
        self.assert_answers(other, ("carve", "done 1"), ("show", "8"))
        self.assert_answers(one, ("show", "500 500 500\n500 500 500"), ("carve", "done 150"))
        self.assert_answers(other, ("show", "8"), ("carve", "done 0"), ("drop", "ok"))
        self.assert_answers(one, ("carve", "done 0"), ("show", "450 450 450\n500 500 500"))


if __name__ == "__main__":
    unittest.main()
