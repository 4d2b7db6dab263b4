"""Point 12: what the machine does at each row, which numbers it looks at, and how it ends."""

import copy
import unittest

from carvebed.machine import do_code
from tests.helper import all_apart, exact, lists_in

DONE = ("done",)
BIG = ("big",)
DEEP = ("deep",)
LONG = ("long",)
MOST = 1000000
HUGE = 10 ** 30 - 1
STOP = ("stop",)
HOLD = ("hold",)
COUNT = ("count",)
BACK = ("back",)


def push(n):
    return ("push", n)


def load(name):
    return ("load", name)


def store(name):
    return ("store", name)


class MachineTest(unittest.TestCase):
    def assert_run(self, moves, end, *code):
        self.assertEqual(exact(do_code(list(code))), exact((moves, end)), code)

    def assert_holds(self, numbers, end, *code):
        self.assert_run([("hold", n) for n in numbers], end, *code)


class RowsTest(MachineTest):
    def test_stop(self):
        self.assert_run([], DONE, STOP)
        self.assert_holds([1], DONE, push(1), HOLD, STOP, push(2), HOLD, STOP)

    def test_push(self):
        self.assert_holds([2, 1], DONE, push(1), push(2), HOLD, HOLD, STOP)

    def test_what_is_left_on_the_heap_is_no_matter(self):
        self.assert_holds([3], DONE, push(1), push(2), push(3), HOLD, STOP)

    def test_store_and_load(self):
        self.assert_holds([5, 5], DONE, push(5), store("n"), load("n"), HOLD, load("n"), HOLD, STOP)
        self.assert_holds([6], DONE, push(5), store("n"), push(6), store("n"), load("n"), HOLD, STOP)
        self.assert_holds([1, 2], DONE, push(1), push(2), store("b"), store("a"), load("a"), HOLD, load("b"), HOLD, STOP)

    def test_store_takes_the_topmost(self):
        self.assert_holds([4], DONE, push(4), push(5), store("n"), HOLD, STOP)

    def test_load_of_a_name_that_stands_for_none(self):
        for name in ("n", "", " ", "turn 1", "12", "-", "~", "x", "hold", "Some Name", "a\nb", "n" * 40):
            self.assert_run([], ("unknown", name), load(name), HOLD, STOP)
            self.assert_holds([7], ("unknown", name), push(7), HOLD, push(1), store("m"), load(name), STOP)
            self.assert_holds([3], DONE, push(3), store(name), load(name), HOLD, STOP)

    def test_add(self):
        self.assert_holds([7], DONE, push(3), push(4), ("add",), HOLD, STOP)
        self.assert_holds([-1], DONE, push(3), push(-4), ("add",), HOLD, STOP)

    def test_sub_takes_the_topmost_as_the_second(self):
        self.assert_holds([7], DONE, push(10), push(3), ("sub",), HOLD, STOP)
        self.assert_holds([-7], DONE, push(3), push(10), ("sub",), HOLD, STOP)

    def test_mul(self):
        self.assert_holds([12], DONE, push(3), push(4), ("mul",), HOLD, STOP)
        self.assert_holds([-12], DONE, push(-3), push(4), ("mul",), HOLD, STOP)
        self.assert_holds([0], DONE, push(0), push(4), ("mul",), HOLD, STOP)

    def test_less_takes_the_topmost_as_the_second(self):
        for first, second, told in ((3, 4, 1), (4, 4, 0), (5, 4, 0), (-4, -3, 1), (-3, -4, 0), (0, -1, 0)):
            self.assert_holds([told], DONE, push(first), push(second), ("less",), HOLD, STOP)

    def test_same(self):
        for first, second, told in ((3, 4, 0), (4, 4, 1), (5, 4, 0), (-4, 4, 0), (0, 0, 1)):
            self.assert_holds([told], DONE, push(first), push(second), ("same",), HOLD, STOP)

    def test_two_numbers_are_taken_and_one_is_laid(self):
        for word, told in (("add", 5), ("sub", -1), ("mul", 6), ("less", 1), ("same", 0)):
            self.assert_holds([told, 1], DONE, push(1), push(2), push(3), (word,), HOLD, HOLD, STOP)

    def test_jump_ahead(self):
        self.assert_holds([2], DONE, ("jump", 3), push(1), HOLD, push(2), HOLD, STOP)

    def test_jump_back(self):
        self.assert_holds([2, 1], DONE, ("jump", 4), push(1), HOLD, STOP, push(2), HOLD, ("jump", 1))

    def test_jump_takes_nothing(self):
        self.assert_holds([0], DONE, push(0), ("jump", 2), HOLD, STOP)

    def test_unless_ahead(self):
        self.assert_holds([2], DONE, push(0), ("unless", 4), push(1), HOLD, push(2), HOLD, STOP)
        for n in (1, -1, 2, HUGE):
            self.assert_holds([1, 2], DONE, push(n), ("unless", 4), push(1), HOLD, push(2), HOLD, STOP)

    def test_unless_back(self):
        code = [("jump", 4), push(1), HOLD, STOP, push(0), ("unless", 1), push(2), HOLD, STOP]
        self.assert_holds([1], DONE, *code)
        code[4] = push(1)
        self.assert_holds([2], DONE, *code)

    def test_unless_takes_its_number(self):
        for n in (0, 1):
            self.assert_holds([8], DONE, push(8), push(n), ("unless", 3), HOLD, STOP)

    def test_hold(self):
        self.assert_holds([4, -4, 0], DONE, push(4), HOLD, push(-4), HOLD, push(0), HOLD, STOP)

    def test_count_and_deeper_do_nothing_else(self):
        self.assert_holds([4], DONE, push(4), COUNT, ("deeper",), HOLD, STOP)

    def test_rounds(self):
        code = [push(0), store("n"), load("n"), push(3), ("less",), ("unless", 13), COUNT, load("n"), HOLD,
                load("n"), push(1), ("add",), ("jump", 1), STOP]
        self.assert_holds([0, 1, 2], DONE, *code)


class MovesTest(MachineTest):
    def test_each_kind_and_axis_to_a_number(self):
        for kind in ("fast", "slow"):
            for axis in ("x", "y", "z"):
                for to in (7, -7, 0):
                    self.assert_run([(kind, axis, to)], DONE, push(to), ("move", kind, axis, False), STOP)

    def test_each_kind_and_axis_by_a_number(self):
        for kind in ("fast", "slow"):
            for axis, place in (("x", 0), ("y", 0), ("z", 1000)):
                by = ("move", kind, axis, True)
                self.assert_run([(kind, axis, place + 5), (kind, axis, place + 3)], DONE,
                                push(5), by, push(-2), by, STOP)
                self.assert_run([(kind, axis, 20), (kind, axis, 25)], DONE, push(20), ("move", kind, axis, False),
                                push(5), by, STOP)

    def test_axes_are_apart(self):
        self.assert_run([("fast", "x", 5), ("slow", "y", 2), ("slow", "z", 1001), ("slow", "x", 6)], DONE,
                        push(5), ("move", "fast", "x", True), push(2), ("move", "slow", "y", True),
                        push(1), ("move", "slow", "z", True), push(1), ("move", "slow", "x", True), STOP)

    def test_a_move_takes_one_number(self):
        self.assert_run([("fast", "x", 5), ("hold", 4)], DONE, push(4), push(5), ("move", "fast", "x", False), HOLD, STOP)

    def test_holds_change_no_place(self):
        self.assert_run([("hold", 50), ("fast", "x", 1)], DONE, push(50), HOLD, push(1), ("move", "fast", "x", True), STOP)


class BigTest(MachineTest):
    def test_sums(self):
        self.assert_holds([MOST], DONE, push(MOST - 1), push(1), ("add",), HOLD, STOP)
        self.assert_holds([], BIG, push(MOST), push(1), ("add",), HOLD, STOP)
        self.assert_holds([-MOST], DONE, push(1 - MOST), push(-1), ("add",), HOLD, STOP)
        self.assert_holds([], BIG, push(-MOST), push(-1), ("add",), HOLD, STOP)
        self.assert_holds([MOST], DONE, push(MOST - 1), push(-1), ("sub",), HOLD, STOP)
        self.assert_holds([], BIG, push(MOST), push(-1), ("sub",), HOLD, STOP)
        self.assert_holds([-MOST], DONE, push(1 - MOST), push(1), ("sub",), HOLD, STOP)
        self.assert_holds([], BIG, push(-MOST), push(1), ("sub",), HOLD, STOP)

    def test_products(self):
        self.assert_holds([MOST], DONE, push(1000), push(1000), ("mul",), HOLD, STOP)
        self.assert_holds([-MOST], DONE, push(-1000), push(1000), ("mul",), HOLD, STOP)
        self.assert_holds([], BIG, push(101), push(9901), ("mul",), HOLD, STOP)
        self.assert_holds([], BIG, push(101), push(-9901), ("mul",), HOLD, STOP)

    def test_a_number_is_looked_at_where_it_is_made(self):
        self.assert_holds([1], BIG, push(1), HOLD, push(MOST), push(1), ("add",), push(2), HOLD, STOP)
        self.assert_run([], BIG, push(MOST), push(1), ("add",), load("n"), STOP)
        self.assert_run([], ("unknown", "n"), load("n"), push(MOST), push(1), ("add",), STOP)

    def test_what_add_sub_and_mul_take_is_not_looked_at(self):
        self.assert_holds([0], DONE, push(HUGE), push(-HUGE), ("add",), HOLD, STOP)
        self.assert_holds([1], DONE, push(HUGE), push(HUGE - 1), ("sub",), HOLD, STOP)
        self.assert_holds([0], DONE, push(HUGE), push(0), ("mul",), HOLD, STOP)
        self.assert_holds([MOST], DONE, push(HUGE), push(HUGE - MOST), ("sub",), HOLD, STOP)
        self.assert_holds([], BIG, push(HUGE), push(HUGE - MOST - 1), ("sub",), HOLD, STOP)

    def test_numbers_that_are_not_looked_at(self):
        for n in (MOST + 1, -MOST - 1, HUGE, -HUGE):
            self.assert_holds([n], DONE, push(n), HOLD, STOP)
            self.assert_holds([n], DONE, push(n), store("n"), load("n"), HOLD, STOP)
            self.assert_holds([n], DONE, push(n), ("call", 3, ["n"]), STOP, load("n"), HOLD, BACK)
            self.assert_holds([1], DONE, push(n), push(n), ("same",), HOLD, STOP)
            self.assert_holds([0], DONE, push(n), push(n + 1), ("same",), HOLD, STOP)
            self.assert_holds([1], DONE, push(n), push(n + 1), ("less",), HOLD, STOP)
            self.assert_holds([0], DONE, push(n), push(n), ("less",), HOLD, STOP)

    def test_where_a_move_goes_to(self):
        for kind in ("fast", "slow"):
            for axis, place in (("x", 0), ("y", 0), ("z", 1000)):
                to = ("move", kind, axis, False)
                by = ("move", kind, axis, True)
                for end in (MOST, -MOST):
                    self.assert_run([(kind, axis, end)], DONE, push(end), to, STOP)
                    self.assert_run([(kind, axis, end)], DONE, push(end - place), by, STOP)
                for end in (MOST + 1, -MOST - 1, HUGE, -HUGE):
                    self.assert_holds([1], BIG, push(1), HOLD, push(end), to, push(2), HOLD, STOP)
                    self.assert_holds([1], BIG, push(1), HOLD, push(end - place), by, push(2), HOLD, STOP)

    def test_what_is_added_by_a_move_is_not_looked_at(self):
        self.assert_run([("slow", "x", -MOST), ("slow", "x", MOST)], DONE, push(-MOST), ("move", "slow", "x", False),
                        push(2 * MOST), ("move", "slow", "x", True), STOP)
        self.assert_run([("slow", "x", -MOST)], BIG, push(-MOST), ("move", "slow", "x", False),
                        push(2 * MOST + 1), ("move", "slow", "x", True), STOP)


class CallsTest(MachineTest):
    def test_the_last_number_is_topmost(self):
        code = [push(1), push(2), push(3), ("call", 5, ["p", "q", "r"]), STOP,
                load("p"), HOLD, load("q"), HOLD, load("r"), HOLD, BACK]
        self.assert_holds([1, 2, 3], DONE, *code)

    def test_numbers_beneath_stay(self):
        self.assert_holds([3, 2, 1], DONE, push(1), push(2), push(3), ("call", 7, ["n"]), HOLD, HOLD, STOP,
                          load("n"), HOLD, BACK)
        self.assert_holds([2, 1], DONE, push(1), push(2), ("call", 6, []), HOLD, HOLD, STOP, BACK)

    def test_numbers_laid_in_a_sub_are_found_behind_it(self):
        self.assert_holds([6, 5], DONE, ("call", 4, []), HOLD, HOLD, STOP, push(5), push(6), BACK)

    def test_numbers_may_be_taken_from_beneath_in_a_sub(self):
        self.assert_holds([4, 9], DONE, push(9), push(4), ("call", 5, []), HOLD, STOP, HOLD, BACK)

    def test_names_of_any_signs(self):
        code = [push(1), push(2), push(3), ("call", 5, ["", "12", "a b"]), STOP,
                load(""), HOLD, load("12"), HOLD, load("a b"), HOLD, BACK]
        self.assert_holds([1, 2, 3], DONE, *code)

    def test_a_frame_holds_its_own_names_alone(self):
        self.assert_run([], ("unknown", "n"), push(1), store("n"), ("call", 4, []), STOP, load("n"), BACK)
        self.assert_run([], ("unknown", "m"), push(1), ("call", 4, ["m"]), load("m"), STOP, BACK)
        self.assert_run([], ("unknown", "m"), ("call", 3, []), load("m"), STOP, push(1), store("m"), BACK)

    def test_the_callers_names_stay(self):
        self.assert_holds([9, 5], DONE, push(5), store("n"), push(7), ("call", 7, ["n"]), load("n"), HOLD, STOP,
                          push(9), store("n"), load("n"), HOLD, BACK)

    def test_each_call_has_names_anew(self):
        self.assert_holds([8], ("unknown", "k"), push(1), ("call", 5, ["n"]), push(0), ("call", 5, ["n"]), STOP,
                          load("n"), ("unless", 9), push(8), store("k"), load("k"), HOLD, BACK)

    def test_frames_within_one_another(self):
        code = [push(1), ("call", 5, ["n"]), load("n"), HOLD, STOP,
                load("n"), push(1), ("add",), ("call", 12, ["n"]), load("n"), HOLD, BACK,
                load("n"), HOLD, push(40), store("m"), BACK]
        self.assert_holds([2, 1], ("unknown", "n"), *code)
        code[2] = push(70)
        self.assert_holds([2, 1, 70], DONE, *code)
        code[9] = load("m")
        self.assert_holds([2], ("unknown", "m"), *code)

    def test_back_goes_on_behind_its_call(self):
        self.assert_holds([1, 5, 2, 5, 3], DONE, push(1), HOLD, ("call", 9, []), push(2), HOLD, ("call", 9, []),
                          push(3), HOLD, STOP, push(5), HOLD, BACK)

    def test_a_call_of_rows_ahead(self):
        self.assert_holds([7, 8], DONE, ("jump", 4), push(7), HOLD, BACK, ("call", 1, []), push(8), HOLD, STOP)

    def test_places_go_on_through_calls(self):
        self.assert_run([("slow", "x", 2), ("slow", "x", 4), ("slow", "x", 5)], DONE, push(2), ("move", "slow", "x", True),
                        push(2), ("call", 7, ["n"]), push(1), ("move", "slow", "x", True), STOP,
                        load("n"), ("move", "slow", "x", True), BACK)


class DeeperTest(MachineTest):
    def nested(self, depth):
        """Calls within one another, that many of them, and then the row at place 15, a deeper, and a hold."""
        return [push(0), store("n"), load("n"), ("call", 5, ["n"]), STOP,
                load("n"), push(depth - 1), ("less",), ("unless", 15), load("n"), push(1), ("add",), COUNT,
                ("call", 5, ["n"]), BACK, ("deeper",), push(99), HOLD, BACK]

    def test_nine_and_ten_calls_open(self):
        for depth in range(1, 10):
            self.assert_holds([99], DONE, *self.nested(depth))
        self.assert_holds([], DEEP, *self.nested(10))

    def test_no_call_open(self):
        self.assert_holds([1], DONE, ("deeper",), push(1), HOLD, STOP)

    def test_calls_behind_one_another_are_not_within(self):
        code = [("call", 31, []), ("deeper",)] * 15 + [STOP, ("deeper",), push(1), HOLD, BACK]
        self.assert_holds([1] * 15, DONE, *code)

    def test_ten_calls_without_deeper(self):
        code = self.nested(10)
        code[15] = COUNT
        self.assert_holds([99], DONE, *code)

    def test_behind_calls_that_are_closed(self):
        # Nine calls were open, and are closed: another one may be opened behind them.
        code = self.nested(9)
        code[4] = ("jump", 2)
        self.assert_holds([99] * 250, LONG, *code)


class LongTest(MachineTest):
    def test_the_2000th_and_the_2001st(self):
        self.assert_holds([1], DONE, *[COUNT] * 2000 + [push(1), HOLD, STOP])
        self.assert_holds([], LONG, *[COUNT] * 2001 + [push(1), HOLD, STOP])
        self.assert_holds([5], LONG, *[COUNT] * 2000 + [push(5), HOLD, COUNT, push(1), HOLD, STOP])

    def test_rounds_are_counted(self):
        self.assert_holds([3] * 2000, LONG, COUNT, push(3), HOLD, ("jump", 0))
        self.assert_holds([3] * 1000, LONG, COUNT, push(3), HOLD, COUNT, ("jump", 0))

    def test_other_rows_are_not_counted(self):
        self.assert_holds([1] * 2400, DONE, *[push(1), HOLD] * 2400 + [STOP])

    def test_five_thousand_rows(self):
        self.assert_holds([5], DONE, *[push(5)] * 4998 + [HOLD, STOP])
        self.assert_holds([2500], DONE, *[push(0)] + [push(1), ("add",)] * 2498 + [push(2), ("add",), HOLD, STOP])

    def test_in_calls_too(self):
        self.assert_holds([7] * 1000, LONG, COUNT, ("call", 3, []), ("jump", 0), COUNT, push(7), HOLD, BACK)

    def test_each_run_counts_anew(self):
        code = [COUNT] * 2000 + [STOP]
        for turn in range(3):
            self.assertEqual(do_code(code), ([], DONE))


class HandedInTest(unittest.TestCase):
    code = [push(1), push(2), ("call", 5, ["p", "q"]), push(4), ("jump", 9), load("p"), HOLD, push(3), BACK,
            ("move", "slow", "x", True), load("none"), STOP]

    def test_the_code_stays_as_it_was(self):
        code = copy.deepcopy(self.code)
        before = exact(code)
        self.assertEqual(do_code(code), ([("hold", 1), ("slow", "x", 4)], ("unknown", "none")))
        self.assertEqual(exact(code), before)

    def test_the_names_of_a_call_stay_as_they_were(self):
        code = [push(1), ("call", 3, ["n"]), STOP, push(2), store("n"), push(3), store("m"), BACK]
        before = exact(copy.deepcopy(code))
        do_code(code)
        self.assertEqual(exact(code), before)

    def test_told_again_the_same(self):
        first = do_code(self.code)
        second = do_code(self.code)
        self.assertEqual(exact(first), exact(second))
        self.assertTrue(all_apart(lists_in(first) + lists_in(second)))
        before = exact(second)
        first[0].append("changed")
        self.assertEqual(exact(second), before)
        self.assertEqual(exact(do_code(self.code)), before)

    def test_told_lists_without_anything_are_no_two_one(self):
        do_code([STOP])[0].append("changed")
        self.assertEqual(do_code([STOP]), ([], DONE))


if __name__ == "__main__":
    unittest.main()
