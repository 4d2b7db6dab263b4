"""Point 3, of programs: run plainly, or turned to code and run by the machine, to the same moves and the same end."""

import unittest

from carvebed.coder import code_of
from carvebed.machine import do_code
from carvebed.plain import run_plainly
from carvebed.programs import read
from tests.helper import Draws, counting, exact, is_code_row, nested, text_of

NAMES = ("a", "b", "c", "d")
AXES = ("x", "y", "z")
KINDS = ("fast", "slow")
SIGNS = ("+", "-", "*")
BIG_NUMBERS = (1000000, -1000000, 1000001, -1000001, 10 ** 12, 10 ** 30 - 1, 1 - 10 ** 30)


class Drawn:
    """A program drawn as it is handed in. Wild ones have numbers, bodies and calls that no text has."""

    def __init__(self, seed, wild):
        self.draws = Draws(seed)
        self.wild = wild
        # How often a name is used at once, big numbers and long times are drawn: unlike from program to program.
        self.strangeness = self.draws.among((60, 60, 25, 8))
        self.left = 90
        self.subs = [("sub" + letter, list(NAMES[:self.draws.below(5)])) for letter in "pqr"[:self.draws.below(4)]]

    def is_strange(self):
        return self.draws.below(self.strangeness) == 0

    def number(self):
        if self.is_strange():
            return ("number", self.draws.among(BIG_NUMBERS) if self.wild else self.draws.among((999999, 999998, 1001)))
        return ("number", self.draws.below(12))

    def told(self, known, depth):
        what = self.draws.below(6)
        if depth > 0 and what < 3:
            return (self.draws.among(SIGNS), self.told(known, depth - 1), self.told(known, depth - 1))
        if what == 3 and self.is_strange():
            return ("name", self.draws.among(NAMES))
        if what >= 3 and known:
            return ("name", self.draws.among(known))
        return self.number()

    def body(self, known, depth):
        statements = []
        # Names given here are known in what follows; those of inner bodies may be, or may not.
        known = list(known)
        for turn in range(self.draws.between(0 if depth else 3, 6)):
            if self.left > 0:
                self.left -= 1
                statements.append(self.statement(known, depth))
        return statements

    def statement(self, known, depth):
        what = self.draws.below(11)
        if what < 2:
            return ("hold", self.told(known, 3))
        if what < 5:
            return ("move", self.draws.among(KINDS), self.draws.among(AXES), self.told(known, 2), self.draws.below(2) == 1)
        if what < 7 or depth >= (8 if self.wild else 5):
            name = self.draws.among(NAMES)
            told = self.told(known, 2)
            known.append(name)
            return ("let", name, told)
        if what == 7 and self.subs:
            name, names = self.draws.among(self.subs)
            return ("call", name, [self.told(known, 2) for one in names])
        if what < 9:
            return self.times(known, depth)
        first, second = self.told(known, 1), self.told(known, 1)
        return ("if", self.draws.among(("<", "=")), first, second, self.body(known, depth + 1), self.body(known, depth + 1))

    def times(self, known, depth):
        name = self.draws.among(NAMES)
        turns = ("number", 300) if self.is_strange() else self.told(known, 1)
        return ("times", name, turns, self.body(known + [name], depth + 1))

    def program(self):
        subs = [(name, names, self.body(names, 1)) for name, names in self.subs]
        return (subs, self.body([], 0))


def word_of(told):
    if told[0] in ("number", "name"):
        return str(told[1])
    return "(" + word_of(told[1]) + told[0] + word_of(told[2]) + ")"


def rows_of(body):
    rows = []
    for one in body:
        if one[0] == "hold":
            rows.append("hold " + word_of(one[1]))
        elif one[0] == "move":
            rows.append(one[1] + " " + one[2] + (" by " if one[4] else " ") + word_of(one[3]))
        elif one[0] == "let":
            rows.append("let " + one[1] + " " + word_of(one[2]))
        elif one[0] == "call":
            rows.append(" ".join(["call", one[1]] + [word_of(told) for told in one[2]]))
        elif one[0] == "times":
            rows.extend(["times " + one[1] + " " + word_of(one[2])] + rows_of(one[3]) + ["end"])
        else:
            rows.extend([" ".join(["if", word_of(one[2]), one[1], word_of(one[3])])] + rows_of(one[4]))
            rows.extend((["else"] + rows_of(one[5]) if one[5] else []) + ["end"])
    return rows


def text_of_program(program):
    rows = []
    for name, names, body in program[0]:
        rows.extend([" ".join(["sub", name] + names)] + rows_of(body) + ["end"])
    return rows + rows_of(program[1])


class AlikeTest(unittest.TestCase):
    def assert_alike(self, program):
        """The same both ways; answers how it ended."""
        code = code_of(program)
        for row in code:
            self.assertTrue(is_code_row(row, len(code)), row)
        told = run_plainly(program)
        self.assertEqual(exact(do_code(code)), exact(told), program)
        return told[1][0]

    def assert_text_alike(self, *rows):
        return self.assert_alike(read(text_of(*rows)))


class DrawnTest(AlikeTest):
    def test_programs_that_are_read(self):
        ends = []
        for seed in range(900):
            drawn = Drawn(seed, False).program()
            rows = text_of_program(drawn)
            if len(rows) <= 120:
                program = read(text_of(*rows))
                self.assertEqual(exact(program), exact(drawn))
                ends.append(self.assert_alike(program))
        for end in ("done", "unknown", "big", "deep", "long"):
            self.assertGreaterEqual(ends.count(end), 20, end)

    def test_programs_that_are_handed_in(self):
        ends = [self.assert_alike(Drawn(seed, True).program()) for seed in range(2000, 2500)]
        for end in ("done", "unknown", "big", "deep", "long"):
            self.assertGreaterEqual(ends.count(end), 10, end)


class EdgesTest(AlikeTest):
    def assert_end(self, end, *rows):
        self.assertEqual(self.assert_text_alike(*rows), end, rows)

    def test_unknown(self):
        for row in ("hold n", "fast x n", "slow y by n", "let m n", "let n n", "hold 0*n"):
            self.assert_end("unknown", "hold 1", row, "hold 2")
            self.assert_end("done", "hold 1", "let n 1", row, "hold 2")
        for row in ("times m n", "times n n", "if n < 1", "if 1 = n"):
            self.assert_end("unknown", row, "hold 2", "end")
            self.assert_end("done", "let n 1", row, "hold 2", "end")
        self.assert_end("unknown", "times n 0", "end", "hold n")
        self.assert_end("done", "times n 1", "end", "hold n")

    def test_big(self):
        for told, end in (("999999+1", "done"), ("999999+2", "big"), ("0-999999-1", "done"), ("0-999999-2", "big"),
                          ("1000*1000", "done"), ("101*9901", "big"), ("0*(999999+1)", "done"), ("0*(999999+2)", "big")):
            for row in ("hold " + told, "fast x " + told, "slow z " + told, "slow y by " + told, "let n " + told):
                self.assert_end(end, row)
            self.assert_end(end, "if 1 < " + told, "hold 1", "else", "hold 2", "end")
            self.assert_end(end, "sub a p q", "hold q", "end", "call a 1 " + told)
            self.assert_end(end, "times n 0*(" + told + ")", "end")

    def test_big_by_where_a_move_goes_to(self):
        for axis, place in (("x", 0), ("y", 0), ("z", 1000)):
            for kind in KINDS:
                self.assert_end("done", kind + " " + axis + " by 999999-" + str(place) + "+1")
                self.assert_end("big", kind + " " + axis + " by 999998-" + str(place) + "+1",
                                kind + " " + axis + " by 2")
                self.assert_end("done", kind + " " + axis + " 0-999999", kind + " " + axis + " by 0-1")
                self.assert_end("big", kind + " " + axis + " 0-999999", kind + " " + axis + " by 0-2")

    def test_deep(self):
        for depth, end in ((1, "done"), (9, "done"), (10, "done"), (11, "deep"), (12, "deep")):
            self.assert_end(end, *nested(depth, "let m 1"))
        self.assert_end("deep", "sub a", "times n 1", "if 1 = 1", "call a", "end", "end", "end", "call a")

    def test_long(self):
        self.assert_end("done", *counting(2000))
        self.assert_end("long", *counting(2001))
        self.assert_end("done", *counting(1999) + ["hold 1"])
        self.assert_end("long", *counting(2000) + ["hold 1"])

    def test_the_counts_of_each_statement(self):
        forms = (
            ["hold 1"], ["fast x by 1"], ["slow z 1"], ["let n 1"], ["times n 0", "end"], ["times n 0-3", "end"],
            ["times n 2", "end"], ["times n 2", "let n 5", "hold 1", "end"], ["if 1 < 2", "end"],
            ["if 1 < 2", "hold 1", "end"], ["if 2 < 1", "hold 1", "end"], ["if 1 = 2", "else", "hold 1", "let n 1", "end"],
            ["call b 5"], ["call c"], ["times n 2", "call b n", "end"],
            ["times n 2", "times m 2", "if n = m", "hold n", "else", "let k 1", "end", "end", "end"],
        )
        subs = ["sub b n", "hold n", "end", "sub c", "end"]
        for form in forms:
            ends = [self.assert_text_alike(*subs + counting(many) + form) for many in range(1980, 2001)]
            # So many are left to be counted that first the program is done, and behind it no longer.
            self.assertEqual(sorted(ends), ends, form)
            self.assertEqual((ends[0], ends[-1]), ("done", "long"), form)


class OrderTest(AlikeTest):
    def test_two_of_one_expression(self):
        for told in ("(999999+2)+n", "n+(999999+2)", "n*(999999*2)", "(999999*2)*n", "999999+2-n", "999999+2*n",
                     "999999+999999*n", "(n-m)*(999999+2)", "0*(999999+2)*n", "(m+999999)*n"):
            for row in ("hold " + told, "slow x by " + told, "let n " + told):
                self.assertIn(self.assert_text_alike(row), ("big", "unknown"))
                self.assert_text_alike("let n 1", row)
                self.assert_text_alike("let m 1", row)

    def test_two_of_one_statement(self):
        for first, second in (("n", "999999+2"), ("999999+2", "n"), ("n", "m"), ("m", "n"), ("1", "n"), ("1", "999999+2")):
            for ahead in ([], ["let n 1"], ["let m 1"]):
                self.assert_text_alike(*ahead + ["if " + first + " < " + second, "hold 1", "end"])
                self.assert_text_alike(*ahead + ["if " + first + " = " + second, "hold 1", "else", "hold 2", "end"])
                self.assert_text_alike("sub a p q", "hold p", "end", *ahead + ["call a " + first + " " + second])

    def test_an_expression_and_where_a_move_goes_to(self):
        for told in ("999999+n", "n+999999", "(999999+2)-999999", "999999"):
            for ahead in ([], ["let n 1"], ["let n 2"], ["let n 0-1"]):
                self.assert_text_alike(*ahead + ["fast x 1", "slow x by " + told])

    def test_long_deep_and_those_of_expressions(self):
        # Ten calls count 1 each, and so do each one's hold and if.
        ends = []
        for last in ("call b n", "call b none", "call b 999999+2", "hold none", "slow z by 999999"):
            for depth in (9, 10, 11):
                for many in (1, 1968, 1969, 1970, 1971, 1972, 1973):
                    rows = ["sub b p", "hold p", "end"] + counting(many) + nested(depth, last)
                    ends.append(self.assert_text_alike(*rows))
        self.assertEqual(set(ends), {"done", "unknown", "big", "deep", "long"})

    def test_long_and_the_turns_of_a_times(self):
        for row in ("times m none", "times m 999999+2", "times m 999999+1", "times m 1", "times m 0"):
            for many in (1997, 1998, 1999, 2000):
                self.assert_text_alike(*counting(many) + [row, "hold none", "end", "hold m"])

    def test_numbers_above_the_bound_that_are_handed_in(self):
        for n in BIG_NUMBERS:
            big = ("number", n)
            end = "done" if abs(n) <= 1000000 else "big"
            for told in (big, ("*", ("number", 0), big), ("+", big, ("number", 0)), ("-", big, big)):
                self.assertEqual(self.assert_alike(([], [("hold", told)])), end)
                self.assertEqual(self.assert_alike(([], [("if", "<", told, told, [], [])])), end)
                self.assertEqual(self.assert_alike(([], [("move", "slow", "x", told, True)])), end)
                self.assertEqual(self.assert_alike(([("a", ["n"], [])], [("call", "a", [told])])), end)
            self.assertEqual(self.assert_alike(([], [("hold", ("+", ("name", "n"), big))])), "unknown")
            self.assert_alike(([], [("hold", ("+", big, ("name", "n")))]))


if __name__ == "__main__":
    unittest.main()
