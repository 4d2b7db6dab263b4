"""Point 11: programs turned to code; point 2: what is told and what is handed in."""

import copy
import unittest

from carvebed.coder import code_of
from carvebed.machine import do_code
from carvebed.plain import run_plainly
from carvebed.programs import read
from tests.helper import ROW_LENGTHS, all_apart, exact, is_code_row, lists_in, text_of

DONE = ("done",)
ALL_FORMS = text_of(
    "call last 1 2", "sub empty", "end", "sub first p q r s", "hold p", "call last r s", "end", "hold 1", "fast x 1+2",
    "fast y by 3-1", "slow y 2*2", "slow z by 0-1", "let n 1", "call empty", "call first 1 2 n 4", "times m 2",
    "hold m", "if m < 1", "hold 7", "else", "hold 8", "end", "end", "if 1 = n", "hold 9", "end",
    "sub last p q", "hold p-q", "if p < q", "call last q p", "end", "end",
)


def number(n):
    return ("number", n)


class CoderTest(unittest.TestCase):
    def assert_code(self, program, moves, end):
        code = code_of(program)
        self.assertIs(type(code), list)
        for row in code:
            self.assertTrue(is_code_row(row, len(code)), row)
        self.assertEqual(exact(do_code(code)), exact((moves, end)), program)
        self.assertEqual(exact(run_plainly(program)), exact((moves, end)), program)

    def assert_run(self, moves, end, *rows):
        self.assert_code(read(text_of(*rows)), moves, end)

    def assert_holds(self, numbers, *rows):
        self.assert_run([("hold", n) for n in numbers], DONE, *rows)


class StatementsTest(CoderTest):
    def test_no_statement(self):
        self.assert_code(([], []), [], DONE)
        self.assert_run([], DONE, "sub a n", "hold n", "end")
        self.assert_run([], DONE, "sub a n", "end")

    def test_hold(self):
        self.assert_holds([4, -3], "hold 4", "hold 2-5")

    def test_moves(self):
        for kind in ("fast", "slow"):
            for axis, place in (("x", 0), ("y", 0), ("z", 1000)):
                self.assert_run([(kind, axis, 7), (kind, axis, 12), (kind, axis, 9)], DONE, kind + " " + axis + " 7",
                                kind + " " + axis + " by 5", kind + " " + axis + " by 0-3")
                self.assert_run([(kind, axis, place + 5)], DONE, kind + " " + axis + " by 5")

    def test_expressions(self):
        self.assert_holds([7, 9, -4, 2, 24, 1], "hold 1+2*3", "hold (1+2)*3", "hold 1-2-3", "hold 1-(2-3)",
                          "hold 2*3*4", "hold 7-2*3")
        self.assert_holds([1, 19, -19, 90], "let a 10", "let b 9", "hold a-b", "hold a+b", "hold 0-b-a", "hold a*b")

    def test_let(self):
        self.assert_holds([5, 6, 12], "let n 5", "hold n", "let n n+1", "hold n", "let m 2*n", "hold m")

    def test_if(self):
        rows = ["hold 1", "else", "hold 2", "end", "hold 3"]
        for row, first in (("if 4 < 5", 1), ("if 5 < 5", 2), ("if 6 < 5", 2), ("if 4 = 5", 2), ("if 5 = 5", 1),
                           ("if 6 = 5", 2)):
            self.assert_holds([first, 3], row, *rows)
            self.assert_holds([1, 3] if first == 1 else [3], row, "hold 1", "end", "hold 3")
            self.assert_holds([3] if first == 1 else [2, 3], row, "else", "hold 2", "end", "hold 3")
            self.assert_holds([3], row, "else", "end", "hold 3")

    def test_times(self):
        self.assert_holds([0, 1, 2, 2], "times n 3", "hold n", "end", "hold n")
        self.assert_holds([0, 1, 2, 50], "times n 3", "hold n", "let n 50", "end", "hold n")
        self.assert_holds([0, 1, 2, 9], "let m 3", "times n m", "let m 9", "hold n", "end", "hold m")
        self.assert_holds([0, 1], "let n 2", "times n n", "hold n", "end")
        self.assert_holds([8, 8], "let n 8", "times n 0", "hold 1", "end", "hold n", "times n 0-4", "end", "hold n")
        self.assert_run([], ("unknown", "n"), "times n 0", "end", "hold n")

    def test_call(self):
        self.assert_holds([1, 2, 3, 4, 9], "sub a p q r s", "hold p", "hold q", "hold r", "hold s", "end",
                          "call a 1 2 3 4", "hold 9")
        self.assert_holds([6, 6], "sub a", "hold 6", "end", "call a", "call a")

    def test_each_stop(self):
        self.assert_run([("hold", 1)], ("unknown", "n"), "hold 1", "hold n")
        self.assert_run([("hold", 1)], ("big",), "hold 1", "hold 999999+2")
        self.assert_run([("hold", 1)] * 10, ("deep",), "sub a", "hold 1", "call a", "end", "call a")
        self.assert_run([("hold", 1)], ("long",), "hold 1", "times n 1999", "end", "hold 2")


class BodiesTest(CoderTest):
    def test_times_within_one_another(self):
        self.assert_holds([0, 1, 2, 10, 11, 12], "times n 2", "times m 3", "hold 10*n+m", "end", "end")
        self.assert_holds([2, 2, 2], "times n 2", "times n 3", "end", "hold n", "end", "hold n")
        rows = ["times a 2", "times b 2", "times c 2", "times d 2", "times e 2", "times f 2"]
        found = [32 * a + 16 * b + 8 * c + 4 * d + 2 * e + f
                 for a in (0, 1) for b in (0, 1) for c in (0, 1) for d in (0, 1) for e in (0, 1) for f in (0, 1)]
        self.assert_holds(found, *rows + ["hold 32*a+16*b+8*c+4*d+2*e+f"] + ["end"] * 6)

    def test_ifs_within_one_another(self):
        rows = ["times n 4", "if n < 2", "if n = 0", "hold 10", "else", "hold 11", "end", "else", "if n = 2", "hold 12",
                "else", "hold 13", "end", "end", "end"]
        self.assert_holds([10, 11, 12, 13], *rows)

    def test_calls_within_bodies(self):
        self.assert_holds([0, 5, 20, 5], "sub a n", "times m 2", "if m = 0", "hold 10*n", "else", "hold 5", "end", "end",
                          "end", "times n 3", "if n = 1", "else", "call a n", "end", "end")

    def test_a_times_that_is_open_twice(self):
        # The sub's times is under way while the sub, and with it the same times, is begun anew.
        self.assert_holds([20, 10, 11, 21, 10, 11], "sub a n", "times m 2", "hold 10*n+m", "if 1 < n", "call a n-1",
                          "end", "end", "end", "call a 2")

    def test_a_times_behind_another_one(self):
        self.assert_holds([0, 1, 0, 1, 2], "times n 2", "hold n", "end", "times n 3", "hold n", "end")

    def test_bodies_and_expressions_somewhat_deeper(self):
        body = [("hold", number(1))]
        told = number(0)
        for turn in range(20):
            body = [("times", "n", number(1), [("if", "=", number(1), number(1), body, [])])]
        for turn in range(80):
            told = ("+", number(1), told)
        self.assert_code(([], body + [("hold", told)]), [("hold", 1), ("hold", 80)], DONE)


class SubsTest(CoderTest):
    def test_ahead_of_its_call(self):
        self.assert_holds([1, 2], "sub a n", "hold n", "end", "call a 1", "call a 2")

    def test_behind_its_call(self):
        self.assert_holds([1, 2, 3], "call a 1", "call b 2", "sub a n", "hold n", "end", "hold 3", "sub b n", "hold n",
                          "end")

    def test_subs_that_call_one_another(self):
        self.assert_holds([3, 102, 1, 100], "sub a n", "hold n", "if 0 < n", "call b n-1", "end", "end",
                          "sub b n", "hold 100+n", "if 0 < n", "call a n-1", "end", "end", "call a 3")

    def test_a_sub_that_calls_itself(self):
        self.assert_holds([3, 2, 1, 0, 0, 1, 2, 3], "sub a n", "hold n", "if 0 < n", "call a n-1", "end", "hold n",
                          "end", "call a 3")

    def test_names_are_apart(self):
        self.assert_holds([9, 5], "sub a n", "let n 9", "hold n", "end", "let n 5", "call a n", "hold n")
        self.assert_run([], ("unknown", "n"), "sub a", "hold n", "end", "let n 5", "call a")
        self.assert_run([], ("unknown", "n"), "sub a n", "end", "call a 1", "hold n")
        self.assert_run([], ("unknown", "m"), "sub a", "times m 2", "end", "end", "call a", "hold m")

    def test_a_sub_without_statements(self):
        self.assert_holds([1], "sub a n", "end", "call a 5", "hold 1")

    def test_its_own_name_among_its_names(self):
        self.assert_holds([4, 3, 3, 4], "sub a a", "hold a", "if 3 < a", "call a a-1", "end", "hold a", "end", "call a 4")

    def test_longer_names_and_more_of_them(self):
        names = ["averylongname" + letter for letter in "abcdef"]
        subs = [("anotherlongname", names, [("hold", ("name", one)) for one in names])]
        call = ("call", "anotherlongname", [number(n) for n in range(6)])
        self.assert_code((subs, [call]), [("hold", n) for n in range(6)], DONE)

    def test_names_like_words_of_the_code(self):
        rows = ["let turn 5", "let turns 6", "let push 7", "times begin 2", "hold turn", "hold turns", "end", "hold push"]
        self.assert_holds([5, 6, 5, 6, 7], *rows)


class NumbersTest(CoderTest):
    def test_written_numbers_above_the_bound(self):
        for n in (1000001, -1000001, 10 ** 30 - 1, 1 - 10 ** 30):
            big = number(n)
            for statement in (("hold", big), ("move", "fast", "x", big, False), ("move", "slow", "z", big, True),
                              ("let", "n", big), ("call", "a", [number(1), big]), ("times", "n", big, []),
                              ("if", "<", number(1), big, [], []), ("if", "=", big, number(1), [], []),
                              ("hold", ("*", number(0), big)), ("hold", ("-", big, big))):
                program = ([("a", ["p", "q"], [])], [("hold", number(1)), statement, ("hold", number(2))])
                self.assert_code(program, [("hold", 1)], ("big",))

    def test_written_numbers_at_the_bound(self):
        for n in (1000000, -1000000):
            self.assert_code(([], [("hold", number(n)), ("let", "n", number(n)), ("hold", ("name", "n"))]),
                             [("hold", n), ("hold", n)], DONE)

    def test_which_stop_comes_first(self):
        big = number(10 ** 29)
        self.assert_code(([], [("hold", ("+", big, ("name", "n")))]), [], ("big",))
        self.assert_code(([], [("hold", ("+", ("name", "n"), big))]), [], ("unknown", "n"))
        self.assert_code(([], [("if", "<", big, ("name", "n"), [], [])]), [], ("big",))


class ListsTest(unittest.TestCase):
    def test_each_row_is_of_one_of_the_seventeen_forms(self):
        code = code_of(read(ALL_FORMS))
        for row in code:
            self.assertTrue(is_code_row(row, len(code)), row)
        self.assertEqual(len(ROW_LENGTHS), 17)

    def test_all_statements_together(self):
        program = read(ALL_FORMS)
        moves, end = run_plainly(program)
        self.assertEqual(end, DONE)
        self.assertEqual(exact(do_code(code_of(program))), exact((moves, end)))

    def test_no_two_lists_are_one(self):
        program = read(ALL_FORMS)
        first = code_of(program)
        found = lists_in(program) + lists_in(first) + lists_in(code_of(program))
        self.assertTrue(all_apart(found))
        # The list itself, and the names of each of the five calls.
        self.assertEqual(len(lists_in(first)), 6)

    def test_a_list_that_stands_twice_in_a_program(self):
        names = ["n"]
        body = [("hold", ("name", "n"))]
        call = [("call", "a", [number(1)]), ("call", "b", [number(2)])]
        told = code_of(([("a", names, body), ("b", names, body)], call + call))
        self.assertTrue(all_apart([names, body] + lists_in(told)))
        self.assertEqual(do_code(told), ([("hold", 1), ("hold", 2)] * 2, DONE))

    def test_what_is_told_may_be_changed(self):
        program = read(ALL_FORMS)
        before = exact(code_of(program))
        for one in lists_in(code_of(program)):
            one.append("changed")
        self.assertEqual(exact(code_of(program)), before)
        for one in lists_in(code_of(program)):
            one.clear()
        self.assertEqual(exact(code_of(program)), before)
        self.assertEqual(exact(program), exact(read(ALL_FORMS)))

    def test_the_program_stays_as_it_was(self):
        program = read(ALL_FORMS)
        before = exact(copy.deepcopy(program))
        code_of(program)
        self.assertEqual(exact(program), before)

    def test_a_program_that_is_changed_behind(self):
        program = read(text_of("sub a n", "hold n", "end", "call a 1"))
        code = code_of(program)
        before = exact(code)
        program[0][0][1].append("m")
        program[0][0][2].append(("hold", number(2)))
        program[1].clear()
        self.assertEqual(exact(code), before)
        self.assertEqual(do_code(code_of(program)), ([], DONE))

    def test_told_lists_without_names_are_no_two_one(self):
        program = read(text_of("sub a", "end", "call a", "call a"))
        for one in lists_in(code_of(program))[1:]:
            one.append("changed")
        self.assertEqual([row[2] for row in code_of(program) if row[0] == "call"], [[], []])


if __name__ == "__main__":
    unittest.main()
