"""Point 7: how a text that is no program is refused, and in which order."""

import unittest

from carvebed.programs import read
from tests.helper import refusal_of, text_of

SIX_OPEN = ["times n 2"] * 6


class RefusalsTest(unittest.TestCase):
    def assert_refused(self, name, *rows):
        self.assertEqual(refusal_of(read, text_of(*rows)), [name], rows)

    def assert_read(self, *rows):
        self.assertIsNone(refusal_of(read, text_of(*rows)), rows)


class TooLongTest(RefusalsTest):
    def test_121_rows(self):
        self.assert_read(*["hold 1"] * 120)
        self.assert_refused("TooLong", *["hold 1"] * 121)
        self.assert_refused("TooLong", *["hold 1"] * 500)

    def test_ends_and_empty_bodies_are_rows_too(self):
        self.assert_read(*["times n 2", "end"] * 60)
        self.assert_refused("TooLong", *["times n 2", "end"] * 60 + ["hold 1"])

    def test_rows_of_no_form_are_rows_too(self):
        self.assert_refused("NoRow", *[""] * 120)
        self.assert_refused("TooLong", *[""] * 121)
        self.assert_refused("NoRow", *["nothing"] * 120)
        self.assert_refused("TooLong", *["nothing"] * 121)
        self.assert_refused("NoRow", *["hold 1"] * 119 + [""])
        self.assert_refused("TooLong", *["hold 1"] * 120 + [""])

    def test_ahead_of_all_else(self):
        for row in ("hold", "else", "end", "call a", "times n 2"):
            self.assert_refused("TooLong", *[row] + ["hold 1"] * 120)
            self.assert_refused("TooLong", *["hold 1"] * 120 + [row])
        self.assert_refused("TooLong", *["times n 2"] * 121)
        self.assert_refused("TooLong", *["sub a", "end"] * 61)
        self.assert_refused("TooLong", *["sub a", "sub a"] * 61)


class NoRowTest(RefusalsTest):
    def assert_no_rows(self, *rows):
        for row in rows:
            self.assert_refused("NoRow", row)
            self.assert_refused("NoRow", "hold 1", row, "hold 1")

    def test_a_text_without_signs(self):
        self.assertEqual(refusal_of(read, ""), ["NoRow"])

    def test_a_row_without_signs(self):
        self.assert_refused("NoRow", "", "hold 1")
        self.assert_refused("NoRow", "hold 1", "")
        self.assert_refused("NoRow", "hold 1", "", "hold 1")
        self.assert_refused("NoRow", "", "")

    def test_blanks_alone(self):
        self.assert_no_rows(" ", "  ")

    def test_hold(self):
        self.assert_no_rows("hold", "hold ", "hold 1 2", "hold 1 ", " hold 1", "hold  1", "hold x", "hold -1",
                            "hold 1 + 2", "hold 1+", "hold by 1", "hold1", "hold,1", "Hold 1", "HOLD 1", "holds 1",
                            "hold 1000000", "hold A", "hold hold", "1 hold", "hold " + "a" + "+a" * 30)

    def test_moves(self):
        for kind in ("fast", "slow"):
            self.assert_no_rows(*[kind + rest for rest in (
                "", " ", " x", " x ", " 1", " n 1", " w 1", " X 1", " xy 1", " x  1", "  x 1", " x 1 ", " x 1 2",
                " x by", " x by ", " x by  1", " x  by 1", " x by 1 ", " x by 1 2", " by x 1", " by 1", " x 1 by",
                " x to 1", " x n 1", " x By 1", " x y", " x x", " x -1", " x by -1", " n by 1", " x by x", "x 1",
                " x by by 1", " x by by", " x y 1",
            )])
        self.assert_no_rows("x 1", "move x 1", "Fast x 1", "fast slow x 1", "faster x 1", "fas x 1", "slow fast x 1")

    def test_let(self):
        self.assert_no_rows("let", "let n", "let n ", "let 1 n", "let 1 1", "let x 1", "let let 1", "let n 1 2",
                            "let n  1", "let n 1 ", "let  n 1", "let n = 1", "let abcdefghi 1", "let N 1", "let n+1 1",
                            "let n x", "let (n) 1", "let n n-", "lets n 1", "Let n 1")

    def test_call(self):
        sub = ["sub a", "end"]
        for row in ("call", "call ", "call 1", "call x", "call call", "call a ", "call  a", "call a  1", "call a 1 ",
                    "call a 1 2 3 4 5", "call a 1 2 3 4 5 6", "call a x", "call a 1 -1", "call a 1,2", "call a(1)",
                    "call (a)", "call abcdefghi", "call A", "Call a", "calls a", "call a 1  2", "call a 1 2 3 4 "):
            self.assert_refused("NoRow", *sub + [row])

    def test_times(self):
        for row in ("times", "times n", "times n ", "times 2", "times 2 n", "times n 1 2", "times n  1", "times n 1 ",
                    "times  n 1", "times x 1", "times n x", "times times 1", "times n+1 2", "times abcdefghi 2",
                    "time n 1", "Times n 1", "times n = 2"):
            self.assert_refused("NoRow", row, "end")

    def test_if(self):
        for row in ("if", "if ", "if 1", "if 1 <", "if 1 < ", "if < 1", "if 1 2", "if 1<2", "if 1 <2", "if 1< 2",
                    "if 1 > 2", "if 1 == 2", "if 1 <= 2", "if 1 =< 2", "if 1 != 2", "if 1 < 2 3", "if 1 < 2 ",
                    "if 1  < 2", "if 1 <  2", "if  1 < 2", "if < 1 2", "if 1 2 <", "if x < 1", "if 1 < x", "if 1 = if",
                    "If 1 < 2", "iff 1 < 2", "if 1 < 2 < 3", "if 1 + 2", "if 1 - 2", "if 1 is 2", "if -1 < 2"):
            self.assert_refused("NoRow", row, "end")

    def test_else(self):
        for row in ("else ", " else", "else 1", "else if 1 < 2", "Else", "elses", "els", "else else"):
            self.assert_refused("NoRow", "if 1 < 2", row, "end")

    def test_end(self):
        for row in ("end ", " end", "end 1", "end if", "End", "ends", "en", "end end"):
            self.assert_refused("NoRow", "if 1 < 2", row)
            self.assert_refused("NoRow", "if 1 < 2", row, "end")

    def test_sub(self):
        for row in ("sub", "sub ", "sub 1", "sub x", "sub sub", "sub a ", "sub  a", "sub a  n", "sub a n ", "sub a 1",
                    "sub a n 1", "sub a n+1", "sub a x", "sub a by", "sub a p q r s t", "sub a p q r s t u",
                    "sub a abcdefghi", "sub abcdefghi", "sub A", "sub a N", "Sub a", "subs a", "sub a (n)", "sub a,n"):
            self.assert_refused("NoRow", row, "end")

    def test_rows_of_one_unknown_word(self):
        self.assert_no_rows("n", "1", "x", "by", "a+b", "#", "# hold 1", "hold#", "<", "=", "~")

    def test_words_of_sixty_one_signs(self):
        self.assert_no_rows("hold a" + "+a" * 30, "fast x by a" + "+a" * 30, "let n a" + "+a" * 30)


class NoPlaceTest(RefusalsTest):
    def test_an_else_without_an_open_body(self):
        self.assert_refused("NoPlace", "else")
        self.assert_refused("NoPlace", "hold 1", "else", "end")
        self.assert_refused("NoPlace", "if 1 < 2", "end", "else", "end")

    def test_an_else_in_a_body_of_another_row(self):
        self.assert_refused("NoPlace", "times n 2", "else", "end")
        self.assert_refused("NoPlace", "sub a", "else", "end")
        self.assert_refused("NoPlace", "if 1 < 2", "times n 2", "else", "end", "end")
        self.assert_refused("NoPlace", "sub a", "if 1 < 2", "end", "else", "end")

    def test_a_second_else(self):
        self.assert_refused("NoPlace", "if 1 < 2", "else", "else", "end")
        self.assert_refused("NoPlace", "if 1 < 2", "hold 1", "else", "hold 1", "else", "hold 1", "end")
        self.assert_refused("NoPlace", "if 1 < 2", "else", "if 1 < 2", "else", "end", "else", "end")

    def test_an_else_behind_an_inner_body(self):
        self.assert_read("if 1 < 2", "times n 2", "end", "else", "end")
        self.assert_read("if 1 < 2", "if 1 < 2", "else", "end", "else", "end")
        self.assert_read("if 1 < 2", "else", "if 1 < 2", "else", "end", "end")

    def test_an_end_without_an_open_body(self):
        self.assert_refused("NoPlace", "end")
        self.assert_refused("NoPlace", "hold 1", "end")
        self.assert_refused("NoPlace", "times n 2", "end", "end")
        self.assert_refused("NoPlace", "if 1 < 2", "else", "end", "end")
        self.assert_refused("NoPlace", "sub a", "end", "end")

    def test_a_sub_within_a_body(self):
        self.assert_refused("NoPlace", "sub a", "sub b", "end", "end")
        self.assert_refused("NoPlace", "times n 2", "sub b", "end", "end")
        self.assert_refused("NoPlace", "if 1 < 2", "sub b", "end", "end")
        self.assert_refused("NoPlace", "if 1 < 2", "else", "sub b", "end", "end")
        self.assert_refused("NoPlace", "sub a", "times n 2", "end", "sub b", "end", "end")


class TooDeepTest(RefusalsTest):
    def test_a_seventh_body(self):
        self.assert_read(*SIX_OPEN + ["end"] * 6)
        self.assert_refused("TooDeep", *SIX_OPEN + ["times n 2"] + ["end"] * 7)
        self.assert_refused("TooDeep", *SIX_OPEN + ["if 1 < 2"] + ["end"] * 7)
        self.assert_refused("TooDeep", *["if 1 = 2"] * 7 + ["end"] * 7)
        self.assert_refused("TooDeep", *["if 1 = 2", "times n 2"] * 4 + ["end"] * 8)

    def test_the_subs_body_is_counted(self):
        self.assert_read(*["sub a"] + ["times n 2"] * 5 + ["end"] * 6)
        self.assert_refused("TooDeep", *["sub a"] + ["times n 2"] * 6 + ["end"] * 7)
        self.assert_refused("TooDeep", *["sub a"] + ["if 1 < 2"] * 6 + ["end"] * 7)

    def test_second_bodies_are_as_deep_as_first_ones(self):
        self.assert_read(*["if 1 < 2", "else"] * 6 + ["end"] * 6)
        self.assert_refused("TooDeep", *["if 1 < 2", "else"] * 6 + ["if 1 < 2"] + ["end"] * 7)

    def test_behind_an_end(self):
        self.assert_read(*SIX_OPEN + ["end", "times n 2"] + ["end"] * 6)
        self.assert_refused("TooDeep", *SIX_OPEN + ["end", "times n 2", "times n 2"] + ["end"] * 7)


class TwiceTest(RefusalsTest):
    def test_a_subs_name_twice(self):
        self.assert_refused("Twice", "sub a", "end", "sub a", "end")
        self.assert_refused("Twice", "sub a", "end", "sub b", "end", "hold 1", "sub a n", "end")
        self.assert_read("sub a", "end", "sub b", "end", "sub aa", "end")

    def test_two_names_alike(self):
        self.assert_refused("Twice", "sub a n n", "end")
        self.assert_refused("Twice", "sub a n m n", "end")
        self.assert_refused("Twice", "sub a k l m k", "end")
        self.assert_refused("Twice", "sub a k l m m", "end")
        self.assert_refused("Twice", "sub a k l l m", "end")
        self.assert_read("sub a k l m n", "end")

    def test_its_own_name_among_them(self):
        self.assert_read("sub a a", "end")
        self.assert_read("sub a n a", "end")
        self.assert_refused("Twice", "sub a a a", "end")
        self.assert_refused("Twice", "sub a n a m a", "end")

    def test_names_of_another_sub(self):
        self.assert_read("sub a n", "end", "sub b n a", "end", "sub n b", "end")


class OpenTest(RefusalsTest):
    def test_a_body_not_ended(self):
        self.assert_refused("Open", "sub a")
        self.assert_refused("Open", "times n 2")
        self.assert_refused("Open", "if 1 < 2")
        self.assert_refused("Open", "if 1 < 2", "else")
        self.assert_refused("Open", "hold 1", "times n 2", "hold 1")
        self.assert_refused("Open", "sub a", "times n 2", "end")
        self.assert_refused("Open", *SIX_OPEN + ["end"] * 5)


class NoSubTest(RefusalsTest):
    def test_a_name_that_is_no_subs(self):
        self.assert_refused("NoSub", "call a")
        self.assert_refused("NoSub", "sub a", "end", "call b")
        self.assert_refused("NoSub", "sub a b", "end", "call b")
        self.assert_refused("NoSub", "let b 1", "call b")
        self.assert_refused("NoSub", "sub a", "call b", "end")
        self.assert_refused("NoSub", "sub a", "end", "call a", "call b", "call a")
        self.assert_refused("NoSub", "sub a", "end", "call aa")

    def test_expressions_not_as_many_as_names(self):
        names = ["p", "q", "r", "s"]
        for due in range(5):
            for told in range(5):
                rows = [" ".join(["sub a"] + names[:due]), "end", " ".join(["call a"] + ["1"] * told)]
                if due == told:
                    self.assert_read(*rows)
                    self.assert_read(rows[2], rows[0], rows[1])
                else:
                    self.assert_refused("NoSub", *rows)
                    self.assert_refused("NoSub", rows[2], rows[0], rows[1])

    def test_within_bodies(self):
        sub = ["sub a n", "end"]
        self.assert_refused("NoSub", *sub + ["times n 2", "call a", "end"])
        self.assert_refused("NoSub", *sub + ["if 1 < 2", "call b 1", "end"])
        self.assert_refused("NoSub", *sub + ["if 1 < 2", "else", "call a 1 2", "end"])
        self.assert_refused("NoSub", "sub a n", "call a", "end")
        self.assert_refused("NoSub", "sub a n", "if 1 < 2", "times n 2", "call a n n", "end", "end", "end")


class OrderTest(RefusalsTest):
    def test_the_first_faulty_row(self):
        self.assert_refused("NoPlace", "end", "nothing")
        self.assert_refused("NoRow", "nothing", "end")
        self.assert_refused("NoRow", "hold 1", "hold x", "else")
        self.assert_refused("TooDeep", *["times n 2"] * 7 + ["nothing"])
        self.assert_refused("NoRow", *["nothing"] + ["times n 2"] * 7)
        self.assert_refused("NoRow", *SIX_OPEN + ["nothing", "times n 2"])
        self.assert_refused("NoPlace", *SIX_OPEN + ["else", "times n 2"])
        self.assert_refused("TooDeep", *["times n 2"] * 7 + ["else"])
        self.assert_refused("Twice", "sub a n n", "end", "end")
        self.assert_refused("NoPlace", "end", "sub a n n", "end")
        self.assert_refused("Twice", "sub a", "end", "sub a", "nothing")
        self.assert_refused("NoRow", "sub a", "end", "nothing", "sub a", "end")
        self.assert_refused("Twice", *["sub a n n"] + ["times n 2"] * 6)
        self.assert_refused("TooDeep", *["times n 2"] * 7 + ["end"] * 7 + ["sub a n n", "end"])
        self.assert_refused("Twice", "sub a n n", "sub b")

    def test_of_one_row_no_row_comes_first(self):
        self.assert_refused("NoRow", "else 1")
        self.assert_refused("NoRow", "end 1")
        self.assert_refused("NoRow", "sub a", "sub 1")
        self.assert_refused("NoRow", "sub a", "sub a n n 1")
        self.assert_refused("NoRow", "sub a n n 1", "end")
        self.assert_refused("NoRow", "sub a", "end", "sub a 1", "end")
        self.assert_refused("NoRow", *SIX_OPEN + ["times n"])
        self.assert_refused("NoRow", *SIX_OPEN + ["if 1 > 2"])
        self.assert_refused("NoRow", *SIX_OPEN + ["times n x"])

    def test_of_one_row_no_place_is_ahead_of_too_deep_and_twice(self):
        self.assert_refused("NoPlace", *SIX_OPEN + ["sub a"])
        self.assert_refused("NoPlace", *SIX_OPEN + ["sub a n n"])
        self.assert_refused("NoPlace", "sub a", "sub a")
        self.assert_refused("NoPlace", "times n 2", "sub a n n")

    def test_faulty_rows_are_ahead_of_open_and_no_sub(self):
        self.assert_refused("NoRow", "times n 2", "nothing")
        self.assert_refused("NoPlace", "times n 2", "else")
        self.assert_refused("Twice", "sub a n n")
        self.assert_refused("TooDeep", *["times n 2"] * 7)
        self.assert_refused("NoRow", "call a", "nothing")
        self.assert_refused("NoPlace", "call a", "end")
        self.assert_refused("Twice", "call b", "sub a n n", "end")
        self.assert_refused("TooDeep", *["call a"] + ["times n 2"] * 7)

    def test_open_is_ahead_of_no_sub(self):
        self.assert_refused("Open", "call a", "times n 2")
        self.assert_refused("Open", "times n 2", "call a")
        self.assert_refused("Open", "sub a n", "call a")

    def test_a_refusal_leaves_nothing_behind(self):
        self.assert_refused("Twice", "sub a", "end", "sub a", "end")
        self.assert_read("sub a", "end")
        self.assert_refused("Open", "times n 2", "hold 1")
        self.assert_refused("NoPlace", "end")
        self.assertEqual(read("hold 1"), ([], [("hold", ("number", 1))]))


if __name__ == "__main__":
    unittest.main()
