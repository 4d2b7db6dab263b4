"""Point 10: how a run ends, and which stop comes first."""

import unittest

from carvebed.plain import run_plainly
from carvebed.programs import read
from tests.helper import counting, exact, nested, text_of

DONE = ("done",)
BIG = ("big",)
DEEP = ("deep",)
LONG = ("long",)
MOST = 1000000


class EndsTest(unittest.TestCase):
    def assert_run(self, moves, end, *rows):
        self.assertEqual(exact(run_plainly(read(text_of(*rows)))), exact((moves, end)), rows)

    def assert_end(self, end, *rows):
        self.assertEqual(exact(run_plainly(read(text_of(*rows)))[1]), exact(end), rows)

    def assert_holds(self, numbers, end, *rows):
        self.assert_run([("hold", n) for n in numbers], end, *rows)


class UnknownTest(EndsTest):
    def test_in_each_statement(self):
        for row in ("hold n", "fast x n", "slow y by n", "let m n", "let n n"):
            self.assert_holds([1], ("unknown", "n"), "hold 1", row, "hold 2")
        for row in ("times m n", "times n n", "if n < 1", "if 1 < n", "if 1 = n"):
            self.assert_holds([1], ("unknown", "n"), "hold 1", row, "hold 2", "end", "hold 2")
        for row in ("call a n 1", "call a 1 n"):
            self.assert_holds([1], ("unknown", "n"), "sub a p q", "hold 3", "end", "hold 1", row, "hold 2")

    def test_which_name(self):
        self.assert_end(("unknown", "left"), "hold left+right")
        self.assert_end(("unknown", "left"), "hold 1-(left*right)")
        self.assert_end(("unknown", "right"), "let left 1", "hold left*right")
        self.assert_end(("unknown", "b"), "let a 1", "hold a+b*c")
        self.assert_end(("unknown", "c"), "let a 1", "let b 1", "hold a+b*c")
        self.assert_end(("unknown", "p"), "if p < q", "end")
        self.assert_end(("unknown", "q"), "if 1 < q+p", "end")
        self.assert_end(("unknown", "p"), "sub a n m", "end", "call a p q")
        self.assert_end(("unknown", "q"), "sub a n m", "end", "call a 1 q")

    def test_a_product_with_nought_needs_its_parts_too(self):
        self.assert_end(("unknown", "n"), "hold 0*n")
        self.assert_end(("unknown", "n"), "if 1 < n", "end")

    def test_what_is_not_reckoned_is_not_looked_at(self):
        self.assert_holds([1], DONE, "if 2 < 1", "hold n", "end", "hold 1")
        self.assert_holds([1], DONE, "if 1 < 2", "hold 1", "else", "hold n", "end")
        self.assert_holds([1], DONE, "times m 0", "hold n", "end", "hold 1")
        self.assert_holds([1], DONE, "sub a", "hold n", "end", "hold 1")


class BigTest(EndsTest):
    def test_sums(self):
        self.assert_holds([MOST], DONE, "hold 999999+1")
        self.assert_holds([], BIG, "hold 999999+2")
        self.assert_holds([-MOST], DONE, "hold 0-999999-1")
        self.assert_holds([], BIG, "hold 0-999999-2")
        self.assert_holds([MOST], DONE, "hold 1-(0-999999)")
        self.assert_holds([], BIG, "hold 2-(0-999999)")

    def test_products(self):
        self.assert_holds([MOST, -MOST], DONE, "hold 1000*1000", "hold (0-1000)*1000")
        self.assert_holds([MOST], DONE, "hold (0-1000)*(0-1000)")
        self.assert_holds([], BIG, "hold 101*9901")
        self.assert_holds([], BIG, "hold (0-101)*9901")
        self.assert_holds([], BIG, "hold 999999*999999")

    def test_parts(self):
        self.assert_holds([999995], DONE, "hold 999999+1-5")
        self.assert_holds([], BIG, "hold 999999+2-5")
        self.assert_holds([], BIG, "hold 5-(999999+2)")
        self.assert_holds([0], DONE, "hold 0*(999999+1)")
        self.assert_holds([], BIG, "hold 0*(999999+2)")
        self.assert_holds([0], DONE, "hold (0-999999-1)*0")
        self.assert_holds([], BIG, "hold (0-999999-2)*0")
        self.assert_holds([], BIG, "hold 101*9901*0")

    def test_in_each_statement(self):
        for told, ends in (("999999+1", False), ("999999+2", True), ("0-999999-1", False), ("0-999999-2", True)):
            for row in ("hold " + told, "fast x " + told, "slow z " + told, "slow y by " + told, "let n " + told):
                self.assert_end(BIG if ends else DONE, row)
            for row in ("if " + told + " < 0", "if 0 = " + told, "times n 0*(" + told + ")"):
                self.assert_end(BIG if ends else DONE, row, "end")
            for row in ("call a " + told + " 0", "call a 0 " + told):
                self.assert_end(BIG if ends else DONE, "sub a p q", "end", row)

    def test_a_number_by_itself_is_a_part_too(self):
        for n in (MOST, -MOST):
            self.assertEqual(run_plainly(([], [("hold", ("number", n))])), ([("hold", n)], DONE))
        for n in (MOST + 1, -MOST - 1, 10 ** 30 - 1):
            self.assertEqual(run_plainly(([], [("hold", ("number", n))])), ([], BIG))
            self.assertEqual(run_plainly(([], [("hold", ("*", ("number", 0), ("number", n)))])), ([], BIG))

    def test_where_a_move_goes_to(self):
        for axis in ("x", "y"):
            self.assert_run([("fast", axis, MOST)], DONE, "fast " + axis + " 999999+1")
            self.assert_run([("fast", axis, 1), ("slow", axis, MOST)], DONE, "fast " + axis + " 1",
                            "slow " + axis + " by 999999")
            self.assert_run([("fast", axis, 2)], BIG, "fast " + axis + " 2", "slow " + axis + " by 999999")
            self.assert_run([("fast", axis, -1), ("slow", axis, -MOST)], DONE, "fast " + axis + " 0-1",
                            "slow " + axis + " by 0-999999")
            self.assert_run([("fast", axis, -2)], BIG, "fast " + axis + " 0-2", "fast " + axis + " by 0-999999")

    def test_where_a_move_of_z_goes_to(self):
        self.assert_run([("slow", "z", MOST)], DONE, "slow z by 999000")
        self.assert_run([], BIG, "slow z by 999001")
        self.assert_run([("slow", "z", 1000 - MOST)], DONE, "slow z by 0-999999-1")
        self.assert_run([("slow", "z", 0), ("slow", "z", -MOST)], DONE, "slow z 0", "slow z by 0-999999-1")
        self.assert_run([("slow", "z", -1)], BIG, "slow z 0-1", "slow z by 0-999999-1")
        self.assert_run([("fast", "z", MOST)], DONE, "fast z 999999+1")

    def test_a_hold_goes_nowhere(self):
        self.assert_run([("fast", "x", MOST), ("hold", MOST), ("hold", MOST)], DONE,
                        "fast x 999999+1", "hold 999999+1", "hold 999999+1")

    def test_a_move_that_stops_is_not_made(self):
        self.assert_run([("hold", 1)], BIG, "hold 1", "fast z by 999999", "hold 2")


class DeepTest(EndsTest):
    def test_ten_and_eleven_calls(self):
        self.assert_holds(list(range(1, 10)), DONE, *nested(9, "let m 1"))
        self.assert_holds(list(range(1, 11)), DONE, *nested(10, "let m 1"))
        self.assert_holds(list(range(1, 11)), DEEP, *nested(11, "let m 1"))
        self.assert_holds(list(range(1, 11)), DEEP, *nested(30, "let m 1"))

    def test_without_an_end_of_its_own(self):
        self.assert_run([], DEEP, "sub a", "call a", "end", "call a")

    def test_calls_of_unlike_subs(self):
        self.assert_holds([1, 2] * 5, DEEP, "sub a", "hold 1", "call b", "end", "sub b", "hold 2", "call a", "end",
                          "call a")

    def test_calls_behind_one_another(self):
        self.assert_holds([5] * 30, DONE, "sub a", "hold 5", "end", "times n 30", "call a", "end")
        rows = nested(10, "let m 1")
        self.assert_holds(list(range(1, 11)) * 3, DONE, *rows + [rows[-1]] * 2)
        self.assert_holds(list(range(1, 11)) + list(range(1, 10)), DEEP, "sub b", "call a 1", "end",
                          *rows + ["call b", "hold 7"])

    def test_within_bodies_of_ifs_and_times(self):
        rows = ["sub a n", "times m 1", "if 1 = 1", "hold n", "call a n+1", "end", "end", "end", "call a 1"]
        self.assert_holds(list(range(1, 11)), DEEP, *rows)

    def test_bodies_that_are_no_calls_are_not_counted(self):
        rows = ["sub a n", "times m 2", "if m = 1", "hold n", "end", "end", "if n < 10", "call a n+1", "end", "end"]
        self.assert_holds(list(range(1, 11)), DONE, *rows + ["call a 1"])


class LongTest(EndsTest):
    def test_each_statement_counts_one(self):
        for row in ("hold 1", "fast x 1", "slow x by 1", "let n 1"):
            self.assert_end(DONE, *counting(1999) + [row])
            self.assert_end(LONG, *counting(2000) + [row])
            self.assert_end(DONE, *counting(1998) + [row, row])
            self.assert_end(LONG, *counting(1999) + [row, row])
        for row in ("times n 0", "times n 0-5", "if 1 < 2", "if 2 = 1"):
            self.assert_end(DONE, *counting(1999) + [row, "end"])
            self.assert_end(LONG, *counting(2000) + [row, "end"])
            self.assert_end(DONE, *counting(1998) + [row, "end", "hold 1"])
            self.assert_end(LONG, *counting(1999) + [row, "end", "hold 1"])

    def test_else_and_end_do_not_count(self):
        for row in ("if 1 < 2", "if 2 < 1"):
            self.assert_end(DONE, *counting(1998) + [row, "hold 1", "else", "hold 2", "end"])
            self.assert_end(LONG, *counting(1999) + [row, "hold 1", "else", "hold 2", "end"])

    def test_calls(self):
        sub = ["sub a n", "hold n", "end"]
        self.assert_holds([5], DONE, *sub + counting(1998) + ["call a 5"])
        self.assert_holds([], LONG, *sub + counting(1999) + ["call a 5"])
        self.assert_holds([], LONG, *sub + counting(2000) + ["call a 5"])
        self.assert_holds([5], LONG, *sub + counting(1998) + ["call a 5", "let m 1"])
        self.assert_end(DONE, "sub a", "end", *counting(1999) + ["call a"])
        self.assert_end(LONG, "sub a", "end", *counting(2000) + ["call a"])

    def test_the_2000th_and_the_2001st_hold(self):
        rows = ["sub a", "end"]
        self.assert_holds([3] * 60, DONE, *counting(1940) + ["hold 3"] * 60)
        self.assert_holds([3] * 60, LONG, *counting(1940) + ["hold 3"] * 61)
        self.assert_holds([4], LONG, *rows + ["hold 4"] + counting(1999) + ["hold 3"])

    def test_turns_count(self):
        self.assert_end(DONE, "times n 1999", "end")
        self.assert_end(LONG, "times n 2000", "end")
        self.assert_end(LONG, "times n 999999", "end")
        self.assert_holds([1], DONE, "times n 1998", "end", "hold 1")
        self.assert_holds([], LONG, "times n 1999", "end", "hold 1")

    def test_turns_and_statements_count(self):
        self.assert_holds(list(range(999)), DONE, "times n 999", "hold n", "end", "let m 1")
        self.assert_holds(list(range(999)), LONG, "times n 999", "hold n", "end", "let m 1", "hold 5")
        self.assert_holds(list(range(999)), LONG, "times n 1000", "hold n", "end")
        self.assert_holds(list(range(999)), LONG, "let m 1", "times n 999", "hold n", "end", "hold 999")
        self.assert_holds(list(range(1000)), DONE, "times n 999", "hold n", "end", "hold 999")
        self.assert_holds([0] * 100 + [1] * 100, DONE, "times n 2", "times m 100", "hold n", "end", "end")

    def test_a_turn_is_counted_ahead_of_its_body(self):
        self.assert_holds([0], DONE, *counting(1997) + ["times n 1", "hold n", "end"])
        self.assert_holds([], LONG, *counting(1998) + ["times n 1", "hold n", "end"])
        self.assert_holds([], LONG, *counting(1999) + ["times n 1", "hold n", "end"])
        self.assert_holds([0], LONG, *counting(1997) + ["times n 2", "hold n", "end"])
        self.assert_end(DONE, *counting(1998) + ["times n 1", "end"])
        self.assert_end(LONG, *counting(1999) + ["times n 1", "end"])

    def test_each_run_counts_anew(self):
        program = read(text_of(*counting(2000)))
        for turn in range(3):
            self.assertEqual(run_plainly(program), ([], DONE))

    def test_within_calls(self):
        self.assert_holds([1, 2, 3], LONG, "sub a", "times n 900", "let m 1", "end", "end", "hold 1", "call a",
                          "hold 2", "if 1 < 2", "let k 1", "end", "hold 3", "call a", "hold 4")


class OrderTest(EndsTest):
    def test_of_an_expression_from_left_to_right(self):
        self.assert_end(BIG, "hold (999999+2)+n")
        self.assert_end(("unknown", "n"), "hold n+(999999+2)")
        self.assert_end(BIG, "hold (999999*2)*n")
        self.assert_end(("unknown", "n"), "hold n*(999999*2)")
        self.assert_end(BIG, "hold 999999+2-n")
        self.assert_end(("unknown", "n"), "hold 999999+2*n")
        self.assert_end(("unknown", "n"), "hold 999999+(2+n)")

    def test_a_sum_behind_its_two_parts(self):
        self.assert_end(("unknown", "n"), "hold 999999+999999*n")
        self.assert_end(BIG, "hold 999999*2+n")

    def test_of_expressions_in_their_order(self):
        self.assert_end(BIG, "if 999999+2 < n", "end")
        self.assert_end(("unknown", "n"), "if n = 999999+2", "end")
        self.assert_end(BIG, "sub a p q", "end", "call a 999999+2 n")
        self.assert_end(("unknown", "n"), "sub a p q", "end", "call a n 999999+2")
        self.assert_end(("unknown", "q"), "sub a p q r", "end", "call a 1 q 999999*2")

    def test_of_statements_in_their_order(self):
        self.assert_holds([1], ("unknown", "n"), "hold 1", "hold n", "hold 999999+2")
        self.assert_holds([1], BIG, "hold 1", "hold 999999+2", "hold n")

    def test_expressions_are_ahead_of_where_a_move_goes_to(self):
        self.assert_end(("unknown", "n"), "fast x 999999", "fast x by 999999+n")
        self.assert_end(("unknown", "n"), "fast x 999999", "fast x by n+999999")

    def test_long_is_ahead_of_the_expressions(self):
        for row, end in (("hold n", ("unknown", "n")), ("hold 999999+2", BIG), ("slow z by 999999", BIG),
                         ("let m n", ("unknown", "n"))):
            self.assert_end(end, *counting(1999) + [row])
            self.assert_end(LONG, *counting(2000) + [row])
        for row in ("if n < 1", "if 1 = n", "times m n"):
            self.assert_end(("unknown", "n"), *counting(1999) + [row, "end"])
            self.assert_end(LONG, *counting(2000) + [row, "end"])
        self.assert_end(("unknown", "n"), "sub a p", "end", *counting(1999) + ["call a n"])
        self.assert_end(LONG, "sub a p", "end", *counting(2000) + ["call a n"])

    def test_expressions_of_a_times_are_ahead_of_its_turns(self):
        self.assert_end(BIG, *counting(1999) + ["times m 999999+2", "end"])
        self.assert_end(LONG, *counting(1999) + ["times m 999999+1", "end"])

    def test_deep_is_ahead_of_the_expressions(self):
        for last, end in (("call b none", ("unknown", "none")), ("call b 999999+2", BIG)):
            sub = ["sub b p", "hold 77", "end"]
            self.assert_holds(list(range(1, 10)), end, *sub + nested(9, last))
            self.assert_holds(list(range(1, 11)), DEEP, *sub + nested(10, last))

    def test_long_is_ahead_of_deep(self):
        # Ten calls count 1 each, and so do each one's hold and if: 30 ahead of the eleventh.
        self.assert_holds(list(range(1, 11)), DEEP, *counting(1969) + nested(11, "let m 1"))
        self.assert_holds(list(range(1, 11)), LONG, *counting(1970) + nested(11, "let m 1"))
        self.assert_holds(list(range(1, 10)), LONG, *counting(1972) + nested(11, "let m 1"))


if __name__ == "__main__":
    unittest.main()
