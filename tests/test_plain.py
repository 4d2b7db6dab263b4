"""Points 8 and 9: how a run goes, and its moves."""

import copy
import unittest

from carvebed.plain import run_plainly
from carvebed.programs import read
from tests.helper import exact, text_of

DONE = ("done",)


def number(n):
    return ("number", n)


class RunTest(unittest.TestCase):
    def assert_run(self, moves, end, *rows):
        self.assertEqual(exact(run_plainly(read(text_of(*rows)))), exact((moves, end)), rows)

    def assert_holds(self, numbers, *rows):
        self.assert_run([("hold", n) for n in numbers], DONE, *rows)


class StatementsTest(RunTest):
    def test_no_statement(self):
        self.assertEqual(exact(run_plainly(([], []))), exact(([], DONE)))
        self.assert_run([], DONE, "sub a", "hold 1", "end")

    def test_expressions(self):
        self.assert_holds([7], "hold 1+2*3")
        self.assert_holds([9], "hold (1+2)*3")
        self.assert_holds([-4], "hold 1-2-3")
        self.assert_holds([2], "hold 1-(2-3)")
        self.assert_holds([-6], "hold 2*(1-4)")
        self.assert_holds([24], "hold 2*3*4")
        self.assert_holds([0], "hold 0")

    def test_let(self):
        self.assert_holds([5], "let n 5", "hold n")
        self.assert_holds([5, 6, 12], "let n 5", "hold n", "let n n+1", "hold n", "let m 2*n", "hold m")
        self.assert_holds([1, 2], "let n 1", "let m 2", "hold n", "hold m")

    def test_if_by_less(self):
        rows = ["hold 1", "else", "hold 2", "end", "hold 3"]
        self.assert_holds([1, 3], *["if 4 < 5"] + rows)
        self.assert_holds([2, 3], *["if 5 < 5"] + rows)
        self.assert_holds([2, 3], *["if 6 < 5"] + rows)
        self.assert_holds([1, 3], *["if 0-6 < 0-5"] + rows)
        self.assert_holds([2, 3], *["if 0 < 0-1"] + rows)

    def test_if_by_equal(self):
        rows = ["hold 1", "else", "hold 2", "end", "hold 3"]
        self.assert_holds([2, 3], *["if 4 = 5"] + rows)
        self.assert_holds([1, 3], *["if 5 = 5"] + rows)
        self.assert_holds([2, 3], *["if 6 = 5"] + rows)
        self.assert_holds([1, 3], *["if 999999 = 999998+1"] + rows)
        self.assert_holds([2, 3], *["if 1 = 0-1"] + rows)

    def test_if_without_else(self):
        self.assert_holds([1, 2, 3], "if 1 < 2", "hold 1", "hold 2", "end", "hold 3")
        self.assert_holds([3], "if 2 < 1", "hold 1", "hold 2", "end", "hold 3")
        self.assert_holds([1, 3], "if 1 = 1", "hold 1", "end", "hold 3")
        self.assert_holds([3], "if 1 = 2", "hold 1", "end", "hold 3")

    def test_an_if_looks_once(self):
        self.assert_holds([1, 5], "let n 1", "if n < 2", "let n 5", "hold 1", "else", "hold 2", "end", "hold n")

    def test_names_given_in_bodies_stay(self):
        self.assert_holds([4], "if 1 < 2", "let n 4", "end", "hold n")
        self.assert_holds([2], "times m 3", "let n m", "end", "hold n")

    def test_other_bodies_are_not_done(self):
        self.assert_run([], ("unknown", "n"), "if 2 < 1", "let n 4", "end", "hold n")


class TimesTest(RunTest):
    def test_some_turns(self):
        self.assert_holds([0, 1, 2], "times n 3", "hold n", "end")
        self.assert_holds([0], "times n 1", "hold n", "end")
        self.assert_holds([0, 7, 1, 7], "times n 2", "hold n", "hold 7", "end")

    def test_no_turns(self):
        self.assert_holds([8], "times n 0", "hold n", "end", "hold 8")
        self.assert_holds([8], "times n 0-1", "hold n", "end", "hold 8")
        self.assert_holds([8], "times n 0-999999", "hold n", "end", "hold 8")

    def test_no_turns_give_no_number(self):
        self.assert_run([], ("unknown", "n"), "times n 0", "end", "hold n")
        self.assert_run([], ("unknown", "n"), "times n 0-3", "end", "hold n")
        self.assert_holds([7], "let n 7", "times n 0", "end", "hold n")
        self.assert_holds([7], "let n 7", "times n 0-2", "end", "hold n")

    def test_what_the_name_stands_for_behind(self):
        self.assert_holds([2], "times n 3", "end", "hold n")
        self.assert_holds([0], "times n 1", "end", "hold n")
        self.assert_holds([0, 1, 1], "let n 9", "times n 2", "hold n", "end", "hold n")

    def test_its_name_given_another_number(self):
        self.assert_holds([0, 1, 2, 50], "times n 3", "hold n", "let n 50", "end", "hold n")
        self.assert_holds([0, 1, 2], "times n 3", "hold n", "let n 0-50", "end")
        self.assert_holds([10, 11, 12, 12], "times n 3", "let n n+10", "hold n", "end", "hold n")

    def test_how_often_is_reckoned_once(self):
        self.assert_holds([0, 1, 2, 20], "let m 3", "times n m", "hold n", "let m 20", "end", "hold m")
        self.assert_holds([0, 1], "let n 2", "times n n", "hold n", "end")
        self.assert_holds([0, 1, 2], "let m 3", "times n m", "let m m-1", "hold n", "end")

    def test_times_within_one_another(self):
        self.assert_holds([0, 1, 2, 10, 11, 12], "times n 2", "times m 3", "hold 10*n+m", "end", "end")
        self.assert_holds([2, 2, 2], "times n 2", "times n 3", "end", "hold n", "end", "hold n")
        self.assert_holds([0, 0, 1], "times n 3", "times m n", "hold m", "end", "end")

    def test_a_times_begun_anew(self):
        self.assert_holds([0, 1, 0, 1], "times n 2", "hold n", "end", "times n 2", "hold n", "end")

    def test_an_if_in_a_times(self):
        self.assert_holds([0, 100, 2], "times n 3", "if n = 1", "hold 100", "else", "hold n", "end", "end")


class CallsTest(RunTest):
    def test_its_numbers_in_their_order(self):
        self.assert_holds([1, 2, 3, 4], "sub a p q r s", "hold p", "hold q", "hold r", "hold s", "end", "call a 1 2 3 4")
        self.assert_holds([2, 1], "sub a p q", "hold p", "hold q", "end", "let p 1", "let q 2", "call a q p")

    def test_reckoned_where_the_call_stands(self):
        self.assert_holds([7, 3], "sub a n", "hold n", "end", "let n 3", "call a 2*n+1", "hold n")

    def test_the_callers_names_stay(self):
        self.assert_holds([9, 5, 1], "sub a n", "let n 9", "let m 8", "hold n", "end",
                          "let n 5", "let m 1", "call a n", "hold n", "hold m")
        self.assert_holds([2, 7], "sub a", "times n 3", "end", "hold n", "end", "let n 7", "call a", "hold n")

    def test_the_callers_names_are_not_the_subs(self):
        self.assert_run([], ("unknown", "n"), "sub a", "hold n", "end", "let n 5", "call a")
        self.assert_run([], ("unknown", "p"), "sub a p", "call b", "end", "sub b", "hold p", "end", "call a 1")

    def test_the_subs_names_are_not_the_callers(self):
        self.assert_run([("hold", 1)], ("unknown", "n"), "sub a n", "hold n", "end", "call a 1", "hold n")
        self.assert_run([], ("unknown", "m"), "sub a", "let m 1", "end", "call a", "hold m")
        self.assert_run([], ("unknown", "m"), "sub a", "times m 2", "end", "end", "call a", "hold m")

    def test_each_call_has_names_anew(self):
        rows = ["sub a n", "if n = 1", "let m 5", "end", "hold m", "end"]
        self.assert_run([("hold", 5)], ("unknown", "m"), *rows + ["call a 1", "call a 2"])

    def test_a_sub_that_calls_itself(self):
        self.assert_holds([3, 2, 1, 0, 0, 1, 2, 3], "sub a n", "hold n", "if 0 < n", "call a n-1", "end", "hold n", "end",
                          "call a 3")

    def test_a_sub_that_is_told_behind(self):
        self.assert_holds([1, 2, 3], "call a 1", "sub a n", "hold n", "call b n+1", "end",
                          "sub b n", "hold n", "end", "hold 3")

    def test_subs_that_call_one_another(self):
        self.assert_holds([3, 102, 1, 100], "sub a n", "hold n", "if 0 < n", "call b n-1", "end", "end",
                          "sub b n", "hold 100+n", "if 0 < n", "call a n-1", "end", "end", "call a 3")

    def test_going_on_behind_a_call(self):
        self.assert_holds([0, 5, 10, 1, 5, 11], "sub a", "hold 5", "end", "times n 2", "hold n", "call a", "hold 10+n",
                          "end")
        self.assert_holds([1, 2, 3], "sub a", "hold 1", "end", "if 1 < 2", "call a", "hold 2", "end", "hold 3")

    def test_a_call_in_a_times_leaves_its_turns(self):
        self.assert_holds([0, 0, 1, 1, 0, 1, 2, 1], "sub a", "times n 2", "hold n", "end", "end",
                          "times n 2", "hold n", "call a", "let k n", "end", "hold 2", "hold k")

    def test_its_own_name_among_its_names(self):
        self.assert_holds([4, 3, 3, 4], "sub a a", "hold a", "if 3 < a", "call a a-1", "end", "hold a", "end", "call a 4")

    def test_a_sub_without_statements(self):
        self.assert_holds([1], "sub a n", "end", "call a 5", "hold 1")

    def test_subs_are_not_done_where_they_stand(self):
        self.assert_holds([1, 2], "hold 1", "sub a", "hold 9", "end", "hold 2")


class MovesTest(RunTest):
    def test_each_kind_and_axis_to_a_number(self):
        for kind in ("fast", "slow"):
            for axis in ("x", "y", "z"):
                self.assert_run([(kind, axis, 7)], DONE, kind + " " + axis + " 7")
                self.assert_run([(kind, axis, -7)], DONE, kind + " " + axis + " 0-7")

    def test_each_kind_and_axis_by_a_number_from_the_beginning(self):
        for kind in ("fast", "slow"):
            for axis, place in (("x", 0), ("y", 0), ("z", 1000)):
                for by in (0, 1, 30):
                    self.assert_run([(kind, axis, place + by)], DONE, kind + " " + axis + " by " + str(by))
                    self.assert_run([(kind, axis, place - by)], DONE, kind + " " + axis + " by 0-" + str(by))

    def test_by_behind_other_moves(self):
        for axis in ("x", "y", "z"):
            self.assert_run([("fast", axis, 5), ("slow", axis, 8), ("fast", axis, 4), ("slow", axis, 2), ("slow", axis, 3)],
                            DONE, "fast " + axis + " 5", "slow " + axis + " by 3", "fast " + axis + " by 0-4",
                            "slow " + axis + " 2", "slow " + axis + " by 1")

    def test_to_is_not_by(self):
        self.assert_run([("fast", "x", 5), ("fast", "x", 3), ("fast", "x", 3)], DONE, "fast x 5", "fast x 3", "fast x 3")

    def test_axes_are_apart(self):
        self.assert_run([("fast", "x", 5), ("fast", "y", 1), ("fast", "z", 1002), ("slow", "x", 6), ("slow", "y", 3),
                         ("slow", "z", 1001)], DONE,
                        "fast x 5", "fast y by 1", "fast z by 2", "slow x by 1", "slow y by 2", "slow z by 0-1")

    def test_holds_change_no_place(self):
        self.assert_run([("hold", 4), ("slow", "x", 1), ("hold", 0), ("slow", "x", 2), ("slow", "z", 1000)], DONE,
                        "hold 4", "slow x by 1", "hold 0", "slow x by 1", "slow z by 0")

    def test_places_beyond_a_bed(self):
        self.assert_run([("fast", "x", -5), ("slow", "x", -6), ("slow", "z", 5000), ("fast", "z", 5001)], DONE,
                        "fast x 0-5", "slow x by 0-1", "slow z 5000", "fast z by 1")

    def test_calls_go_on_from_where_the_axes_stand(self):
        self.assert_run([("fast", "x", 3), ("slow", "x", 5), ("slow", "y", 2), ("slow", "x", 6)], DONE,
                        "sub a n", "slow x by n", "slow y by n", "end", "fast x 3", "call a 2", "slow x by 1")

    def test_each_run_begins_anew(self):
        program = read(text_of("slow x by 1", "slow z by 1", "hold 1"))
        for turn in range(3):
            self.assertEqual(run_plainly(program), ([("slow", "x", 1), ("slow", "z", 1001), ("hold", 1)], DONE))

    def test_by_in_a_loop(self):
        self.assert_run([("slow", "y", 2), ("slow", "y", 4), ("slow", "y", 6)], DONE, "times n 3", "slow y by 2", "end")


class HandedInTest(unittest.TestCase):
    def test_a_program_that_was_not_read(self):
        program = ([("a", ["n"], [("hold", ("name", "n"))])],
                   [("call", "a", [("-", number(3), number(1))]), ("move", "slow", "z", number(-4), True)])
        self.assertEqual(exact(run_plainly(program)), exact(([("hold", 2), ("slow", "z", 996)], DONE)))

    def test_bodies_and_expressions_somewhat_deeper(self):
        body = [("hold", number(1))]
        told = number(0)
        for turn in range(12):
            body = [("if", "=", number(1), number(1), body, [])]
        for turn in range(80):
            told = ("+", number(1), told)
        self.assertEqual(run_plainly(([], body + [("hold", told)])), ([("hold", 1), ("hold", 80)], DONE))

    def test_longer_names_and_more_of_them(self):
        names = ["averylongname" + letter for letter in "abcdef"]
        subs = [("anotherlongname", names, [("hold", ("name", one)) for one in names])]
        call = ("call", "anotherlongname", [number(n) for n in range(6)])
        self.assertEqual(run_plainly((subs, [call])), ([("hold", n) for n in range(6)], DONE))

    def test_the_program_stays_as_it_was(self):
        for last in ("hold 1", "hold zero", "call a 1", "slow z by 999999"):
            program = read(text_of("sub a n", "let n n+1", "call b n n", "end", "sub b n m", "slow x by n", "end",
                                   "times n 3", "if n < 1", "call a n", "else", "let n 7", "end", "end", last))
            before = exact(copy.deepcopy(program))
            run_plainly(program)
            self.assertEqual(exact(program), before)

    def test_a_program_changed_between_two_runs(self):
        program = read(text_of("sub a", "hold 1", "end", "call a"))
        first = run_plainly(program)
        program[0][0][2].append(("hold", number(2)))
        program[1].append(("hold", number(3)))
        self.assertEqual(first, ([("hold", 1)], DONE))
        self.assertEqual(run_plainly(program), ([("hold", 1), ("hold", 2), ("hold", 3)], DONE))

    def test_the_told_moves_are_the_askers_own(self):
        program = read(text_of("hold 1", "fast x 2"))
        first = run_plainly(program)[0]
        second = run_plainly(program)[0]
        self.assertIsNot(first, second)
        first.append("changed")
        second.clear()
        self.assertEqual(run_plainly(program), ([("hold", 1), ("fast", "x", 2)], DONE))

    def test_told_lists_without_anything_are_no_two_one(self):
        first = run_plainly(([], []))[0]
        first.append("changed")
        self.assertEqual(run_plainly(([], [])), ([], DONE))


if __name__ == "__main__":
    unittest.main()
