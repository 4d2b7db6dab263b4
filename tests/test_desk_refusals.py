"""Point 23: which rows a desk refuses, by which class, which is due first, and that what is refused changes nothing."""

import unittest

from carvebed.desk import Desk
from carvebed.errors import CarveError
from tests.helper import desk_told, refusal_of

ROWS = ("bed 3 2 500", "cutter 100 0", "row hold 0", "drop", "carve", "cell 1 1", "show", "low 1 1")
READY = ("bed 3 2 500", "cutter 100 0", "cutter 30 1", "row hold 1", "row slow z 480")


def answers(desk):
    """What a desk answers to rows that look into all that it keeps: its bed, its rows and its shelf."""
    told = []
    for row in ("show", "low 1 1", "cell 0 0", "carve", "show", "row slow x 2", "carve", "show", "drop", "carve",
                "row hold 5", "carve", "cutter 7 0", "carve") + ("cutter 1 0",) * 7:
        try:
            told.append(desk.say(row))
        except CarveError as error:
            told.append(type(error).__name__)
    return told


class RefusalsTest(unittest.TestCase):
    def assert_refused(self, refusal, row, ahead=READY):
        desk = desk_told(*ahead)
        self.assertEqual(refusal_of(desk.say, row), [refusal], (row, ahead))
        self.assertEqual(refusal_of(desk.say, row), [refusal], (row, ahead))
        self.assertEqual(answers(desk), answers(desk_told(*ahead)), (row, ahead))

    def assert_taken(self, row, ahead=READY):
        self.assertIsNone(refusal_of(desk_told(*ahead).say, row), (row, ahead))


class NoFormTest(RefusalsTest):
    def assert_no_form(self, row):
        self.assert_refused("NoForm", row)
        # With no bed there, NoForm is due first.
        self.assert_refused("NoForm", row, ())

    def test_each_form_is_one(self):
        for row in ROWS:
            self.assert_taken(row)

    def test_other_first_words(self):
        for row in ("", "beds 3 2 500", "Bed 3 2 500", "BED 3 2 500", "cut 1 0", "rows hold 0", "Row hold 0", "rowhold 0",
                    "hold 0", "dropped", "carved", "cells 0 0", "shows", "Show", "lower 0 0", "3 2 500", "ok", "-", "x"):
            self.assert_no_form(row)

    def test_words_too_few(self):
        for row in ("bed", "bed 3", "bed 3 2", "cutter", "cutter 100", "row", "cell", "cell 1", "low", "low 1"):
            self.assert_no_form(row)

    def test_words_too_many(self):
        for row in ("bed 3 2 500 1", "cutter 100 0 0", "drop 1", "carve 1", "cell 1 1 1", "show 1", "low 1 1 1", "drop drop",
                    "show show", "carve row", "bed 3 2 500 500 500"):
            self.assert_no_form(row)

    def test_blanks_ahead_behind_and_twice(self):
        for row in ROWS:
            self.assert_no_form(" " + row)
            if not row.startswith("row "):
                self.assert_no_form(row + " ")
                self.assert_no_form(row + "  ")
            if " " in row and not row.startswith("row "):
                self.assert_no_form(row.replace(" ", "  ", 1))
        for row in (" ", "  ", "bed 3 2  500", "bed 3  2 500", "cell 1  1", "low 1  1", "cutter 1  0", "cell  ", "bed   "):
            self.assert_no_form(row)

    def test_a_line_feed_at_any_place(self):
        for row in ROWS + ("row ", "row  hold 0"):
            for at in range(len(row) + 1):
                self.assert_no_form(row[:at] + "\n" + row[at:])
            for at, sign in enumerate(row):
                if sign == " ":
                    self.assert_no_form(row[:at] + "\n" + row[at + 1:])
        self.assert_no_form("\n")
        self.assert_no_form("\n\n")

    def test_numbers_written_otherwise(self):
        for word in ("00", "01", "007", "-1", "-0", "+1", "1000000", "0000001", "1.0", "1e1", "a", "x", "1a", "a1", "(1)", "1+1",
                     "1*1", "0x1", "1_0", "n", "#", "1,", "one", "9" * 30):
            for row in ("bed # 2 500", "bed 3 # 500", "bed 3 2 #", "cutter # 0", "cutter 100 #", "cell # 1", "cell 1 #", "low # 1",
                        "low 1 #"):
                self.assert_refused("NoForm", row.replace("#", word))
        for row in ("bed 01 2 500", "cell 00 0", "low 0 -1"):
            self.assert_refused("NoForm", row, ())

    def test_numbers_of_six_figures_are_of_the_form(self):
        for row, refusal in (("bed 999999 2 500", "NoMeasure"), ("cutter 100000 0", "NoMeasure"), ("cutter 1 999999", "NoMeasure"),
                             ("cell 999999 0", "NoCell"), ("low 0 100000", "NoCell")):
            self.assert_refused(refusal, row)


class NoBedTest(RefusalsTest):
    def test_all_but_bed(self):
        for row in ROWS[1:] + ("row ", "row  x "):
            self.assert_refused("NoBed", row, ())
            self.assert_taken(row)
        self.assert_taken("bed 3 2 500", ())

    def test_ahead_of_all_others(self):
        for row in ("cutter 0 0", "cutter 1001 3", "cell 99 99", "low 99 99", "carve", "low 0 0"):
            self.assert_refused("NoBed", row, ())

    def test_a_bed_that_is_refused_is_none(self):
        desk = Desk()
        self.assertEqual(refusal_of(desk.say, "bed 0 1 1"), ["NoMeasure"])
        self.assertEqual(refusal_of(desk.say, "show"), ["NoBed"])
        self.assertEqual(refusal_of(desk.say, "bed 1 1"), ["NoForm"])
        self.assertEqual(refusal_of(desk.say, "show"), ["NoBed"])
        self.assertEqual([desk.say("bed 1 1 1"), desk.say("show")], ["ok", "1"])


class NoMeasureTest(RefusalsTest):
    def test_of_a_bed(self):
        for ahead in ((), READY):
            for row in ("bed 0 1 1", "bed 41 1 1", "bed 1 0 1", "bed 1 41 1", "bed 1 1 1001", "bed 0 0 0", "bed 41 41 1001"):
                self.assert_refused("NoMeasure", row, ahead)
            for row in ("bed 1 1 0", "bed 40 1 1", "bed 1 40 1", "bed 1 1 1000", "bed 40 40 1000"):
                self.assert_taken(row, ahead)

    def test_of_a_cutter(self):
        for row in ("cutter 0 0", "cutter 1001 0", "cutter 1 3", "cutter 0 3", "cutter 1000 3"):
            self.assert_refused("NoMeasure", row)
        for row in ("cutter 1 0", "cutter 1000 0", "cutter 1 2", "cutter 1 1", "cutter 1000 2"):
            self.assert_taken(row)

    def test_the_seventh_cutter(self):
        for many in range(6):
            self.assert_taken("cutter 1 0", ("bed 3 2 500",) + ("cutter 9 1",) * many)
        for row in ("cutter 1 0", "cutter 9 1", "cutter 0 0"):
            self.assert_refused("NoMeasure", row, ("bed 3 2 500",) + ("cutter 9 1",) * 6)
        self.assert_refused("NoForm", "cutter 01 0", ("bed 3 2 500",) + ("cutter 9 1",) * 6)
        self.assert_taken("cutter 1 0", ("bed 3 2 500",) + ("cutter 9 1",) * 6 + ("bed 1 1 1",))


class NoCellTest(RefusalsTest):
    def test_one_beyond(self):
        for word in ("cell", "low"):
            for place in ("3 0", "0 2", "3 2", "2 3", "999999 0"):
                self.assert_refused("NoCell", word + " " + place)
            for place in ("0 0", "2 0", "0 1", "2 1"):
                self.assert_taken(word + " " + place)

    def test_of_a_bed_of_one_cell(self):
        for word in ("cell", "low"):
            self.assert_taken(word + " 0 0", ("bed 1 1 5", "cutter 1 0"))
            self.assert_refused("NoCell", word + " 1 0", ("bed 1 1 5", "cutter 1 0"))
            self.assert_refused("NoCell", word + " 0 1", ("bed 1 1 5", "cutter 1 0"))

    def test_of_the_greatest_bed(self):
        for word in ("cell", "low"):
            self.assert_taken(word + " 39 39", ("bed 40 40 5", "cutter 1 0"))
            self.assert_refused("NoCell", word + " 40 39", ("bed 40 40 5", "cutter 1 0"))
            self.assert_refused("NoCell", word + " 39 40", ("bed 40 40 5", "cutter 1 0"))

    def test_ahead_of_no_cutter(self):
        self.assert_refused("NoCell", "low 3 0", ("bed 3 2 500",))
        self.assert_refused("NoCutter", "low 2 0", ("bed 3 2 500",))


class NoCutterTest(RefusalsTest):
    def test_an_empty_shelf(self):
        for ahead in (("bed 3 2 500",), ("bed 3 2 500", "row hold 0"), READY + ("bed 3 2 500",), ("bed 3 2 500", "drop")):
            self.assert_refused("NoCutter", "low 0 0", ahead)
            self.assert_refused("NoCutter", "carve", ahead)
        self.assert_taken("low 0 0", ("bed 3 2 500", "cutter 1 0"))
        self.assert_taken("carve", ("bed 3 2 500", "cutter 1 0", "row hold 0"))

    def test_ahead_of_the_programs_text(self):
        for rows in ((), ("row ",), ("row hold",), ("row end",), ("row times n 1",), ("row call a",), ("row hold 0",) * 121):
            self.assert_refused("NoCutter", "carve", ("bed 3 2 500",) + rows)

    def test_cell_and_show_need_none(self):
        self.assert_taken("cell 0 0", ("bed 3 2 500",))
        self.assert_taken("show", ("bed 3 2 500",))


class CarveTest(RefusalsTest):
    def assert_carve_refused(self, refusal, *rows):
        self.assert_refused(refusal, "carve", ("bed 3 2 500", "cutter 100 0") + tuple("row " + row for row in rows))

    def test_each_class(self):
        deep = ["if 1 < 2"] * 6
        self.assert_carve_refused("TooLong", *["hold 0"] * 121)
        self.assert_carve_refused("NoRow", "hold 0", "hold", "slow z 480")
        self.assert_carve_refused("NoPlace", "hold 0", "end")
        self.assert_carve_refused("NoPlace", "hold 0", "else")
        self.assert_carve_refused("TooDeep", "hold 0", *deep + ["times n 2"])
        self.assert_carve_refused("Twice", "sub a", "end", "sub a", "end")
        self.assert_carve_refused("Twice", "sub a b b", "end")
        self.assert_carve_refused("Open", "hold 0", "times n 2", "slow z by 0-10")
        self.assert_carve_refused("NoSub", "hold 0", "slow z 480", "call a")
        self.assert_carve_refused("NoSub", "sub a n", "end", "hold 0", "slow z 480", "call a")

    def test_the_order_of_the_classes(self):
        self.assert_carve_refused("TooLong", *["no"] * 121)
        self.assert_carve_refused("NoRow", "call a", "times n 2", "no", "end", "end")
        self.assert_carve_refused("NoPlace", "call a", "end", "no")
        self.assert_carve_refused("Open", "call a", "times n 2")

    def test_a_hundred_and_twenty_rows(self):
        desk = desk_told("bed 3 2 500", "cutter 100 0", *["row hold 0"] * 120)
        self.assertEqual(desk.say("carve"), "done 0")
        desk.say("row hold 0")
        self.assertEqual(refusal_of(desk.say, "carve"), ["TooLong"])

    def test_without_program_rows(self):
        self.assert_carve_refused("NoRow")
        self.assert_refused("NoRow", "carve", READY + ("drop",))
        self.assert_carve_refused("NoRow", "")
        self.assert_carve_refused("NoRow", "", "hold 0")
        self.assert_carve_refused("NoRow", "hold 0", "")

    def test_blanks_of_rows_are_kept(self):
        self.assert_carve_refused("NoRow", " hold 0")
        self.assert_carve_refused("NoRow", "hold 0 ")
        self.assert_carve_refused("NoRow", "hold  0")

    def test_the_rows_are_there_still(self):
        desk = desk_told("bed 3 2 500", "cutter 100 0", "row hold 0", "row times n 2", "row slow z 500-n*10-10")
        self.assertEqual(refusal_of(desk.say, "carve"), ["Open"])
        self.assertEqual(desk.say("show"), "500 500 500\n500 500 500")
        self.assertEqual([desk.say("row end"), desk.say("carve"), desk.say("cell 0 0")], ["ok", "done 20", "480"])


if __name__ == "__main__":
    unittest.main()
