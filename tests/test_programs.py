"""Points 5 and 6: the rows, and programs as they are told; point 2: the lists within them."""

import unittest

from carvebed.programs import read
from tests.helper import exact, lists_in, text_of

ONE = ("number", 1)
TWO = ("number", 2)
N = ("name", "n")

ALL_FORMS = text_of(
    "sub a", "end", "sub b p q r s", "hold p", "end", "hold 1", "fast x 1", "slow y by n", "let n 1", "call a",
    "call b 1 2 n 1", "times n 2", "end", "times m 2", "if 1 < 2", "else", "end", "end", "if 1 = n", "hold 1", "end",
)


class RowsTest(unittest.TestCase):
    def assert_body(self, text, body):
        self.assertEqual(exact(read(text)), exact(([], body)))

    def test_hold(self):
        self.assert_body("hold 1", [("hold", ONE)])
        self.assert_body("hold (n+1)*2", [("hold", ("*", ("+", N, ONE), TWO))])

    def test_moves_to_a_number(self):
        for kind in ("fast", "slow"):
            for axis in ("x", "y", "z"):
                self.assert_body(kind + " " + axis + " n", [("move", kind, axis, N, False)])

    def test_moves_by_a_number(self):
        for kind in ("fast", "slow"):
            for axis in ("x", "y", "z"):
                self.assert_body(kind + " " + axis + " by n", [("move", kind, axis, N, True)])

    def test_let(self):
        self.assert_body("let n 1", [("let", "n", ONE)])
        self.assert_body("let abcdefgh n-1", [("let", "abcdefgh", ("-", N, ONE))])

    def test_times(self):
        self.assert_body(text_of("times n 2", "end"), [("times", "n", TWO, [])])
        self.assert_body(text_of("times n n", "hold n", "hold 1", "end"),
                         [("times", "n", N, [("hold", N), ("hold", ONE)])])

    def test_if_without_else(self):
        for sign in ("<", "="):
            self.assert_body(text_of("if n " + sign + " 1", "hold 2", "end"),
                             [("if", sign, N, ONE, [("hold", TWO)], [])])
            self.assert_body(text_of("if 1 " + sign + " n", "end"), [("if", sign, ONE, N, [], [])])

    def test_if_with_else(self):
        self.assert_body(text_of("if n < 1", "hold 1", "hold n", "else", "hold 2", "end", "hold n"),
                         [("if", "<", N, ONE, [("hold", ONE), ("hold", N)], [("hold", TWO)]), ("hold", N)])
        self.assert_body(text_of("if n = 1", "else", "hold 2", "hold 1", "end"),
                         [("if", "=", N, ONE, [], [("hold", TWO), ("hold", ONE)])])
        self.assert_body(text_of("if n = 1", "hold 2", "else", "end"), [("if", "=", N, ONE, [("hold", TWO)], [])])
        self.assert_body(text_of("if n = 1", "else", "end"), [("if", "=", N, ONE, [], [])])

    def test_calls_of_none_to_four_expressions(self):
        words = ["n", "1", "n+1", "(2)"]
        told = [N, ONE, ("+", N, ONE), TWO]
        names = ["p", "q", "r", "s"]
        for many in range(5):
            sub = " ".join(["sub", "a"] + names[:many])
            call = " ".join(["call", "a"] + words[:many])
            self.assertEqual(exact(read(text_of(call, sub, "end"))),
                             exact(([("a", names[:many], [])], [("call", "a", told[:many])])))

    def test_expressions_of_sixty_signs(self):
        word = "aa" + "+a" * 29
        row = " ".join(["call", "a", word, word, word, word])
        self.assertEqual(len(read(text_of(row, "sub a p q r s", "end"))[1][0][2]), 4)
        self.assertEqual(read("if " + word + " < " + word + "\nend")[1][0][1], "<")

    def test_names_may_be_words_of_the_tuples(self):
        self.assert_body("let move 1", [("let", "move", ONE)])
        self.assert_body("let number name", [("let", "number", ("name", "name"))])


class BodiesTest(unittest.TestCase):
    def test_one_row(self):
        self.assertEqual(exact(read("hold 1")), exact(([], [("hold", ONE)])))

    def test_a_program_without_a_statement_in_its_body(self):
        self.assertEqual(exact(read(text_of("sub a", "end"))), exact(([("a", [], [])], [])))

    def test_statements_in_the_order_of_the_text(self):
        self.assertEqual(exact(read(text_of("hold 1", "let n 2", "hold n", "fast x by 2"))),
                         exact(([], [("hold", ONE), ("let", "n", TWO), ("hold", N), ("move", "fast", "x", TWO, True)])))

    def test_subs_in_the_order_of_the_text(self):
        text = text_of("sub b", "call c 1", "end", "hold 1", "sub a n", "hold n", "end", "call a 2",
                       "sub c n", "call b", "end", "hold 2")
        subs = [("b", [], [("call", "c", [ONE])]), ("a", ["n"], [("hold", N)]), ("c", ["n"], [("call", "b", [])])]
        self.assertEqual(exact(read(text)), exact((subs, [("hold", ONE), ("call", "a", [TWO]), ("hold", TWO)])))

    def test_a_sub_that_calls_itself(self):
        self.assertEqual(exact(read(text_of("sub a n", "call a n", "end"))),
                         exact(([("a", ["n"], [("call", "a", [N])])], [])))

    def test_calls_within_bodies(self):
        text = text_of("if 1 < 2", "call a", "else", "times n 2", "call a", "end", "end", "sub a", "end")
        body = [("if", "<", ONE, TWO, [("call", "a", [])], [("times", "n", TWO, [("call", "a", [])])])]
        self.assertEqual(exact(read(text)), exact(([("a", [], [])], body)))

    def test_bodies_within_one_another(self):
        text = text_of("times n 2", "hold 1", "if n < 1", "times m 2", "end", "hold 2", "else", "if 1 = n", "hold n",
                       "end", "end", "hold n", "end", "hold 1")
        inner = [("times", "m", TWO, []), ("hold", TWO)]
        other = [("if", "=", ONE, N, [("hold", N)], [])]
        body = [("times", "n", TWO, [("hold", ONE), ("if", "<", N, ONE, inner, other), ("hold", N)]), ("hold", ONE)]
        self.assertEqual(exact(read(text)), exact(([], body)))

    def test_an_else_belongs_to_the_innermost_if(self):
        text = text_of("if 1 < 2", "if 1 = 2", "hold 1", "else", "hold 2", "end", "else", "hold n", "end")
        body = [("if", "<", ONE, TWO, [("if", "=", ONE, TWO, [("hold", ONE)], [("hold", TWO)])], [("hold", N)])]
        self.assertEqual(exact(read(text)), exact(([], body)))

    def test_six_deep(self):
        told = [("hold", ONE)]
        for turn in range(6):
            told = [("times", "n", TWO, told)]
        self.assertEqual(exact(read(text_of(*["times n 2"] * 6 + ["hold 1"] + ["end"] * 6))), exact(([], told)))

    def test_six_deep_with_the_subs_body(self):
        told = [("hold", ONE)]
        for turn in range(5):
            told = [("if", "<", ONE, TWO, [], told)]
        rows = ["sub a"] + ["if 1 < 2", "else"] * 5 + ["hold 1"] + ["end"] * 6
        self.assertEqual(exact(read(text_of(*rows))), exact(([("a", [], told)], [])))

    def test_six_deep_again_and_again(self):
        rows = ["times n 2"] * 6 + ["end", "times n 2"] + ["end"] * 6 + ["times n 2"] * 6 + ["end"] * 6
        self.assertEqual(len(read(text_of(*rows))[1]), 2)
        rows = ["if 1 < 2"] * 6 + ["else", "hold 1"] + ["end", "else"] * 5 + ["end"]
        self.assertEqual(len(read(text_of(*rows))[1]), 1)

    def test_names_of_subs_and_of_numbers_are_apart(self):
        text = text_of("sub a b", "hold b", "end", "sub b a", "hold a", "end", "let a 1", "call b a")
        self.assertEqual([sub[0] for sub in read(text)[0]], ["a", "b"])

    def test_a_subs_own_name_among_its_names(self):
        self.assertEqual(exact(read(text_of("sub a a", "end"))[0]), exact([("a", ["a"], [])]))
        self.assertEqual(exact(read(text_of("sub a b c a d", "end"))[0]), exact([("a", ["b", "c", "a", "d"], [])]))

    def test_the_same_names_behind_two_subs(self):
        self.assertEqual(len(read(text_of("sub a p q", "end", "sub b p q", "end"))[0]), 2)

    def test_120_rows(self):
        self.assertEqual(exact(read(text_of(*["hold 1"] * 120))), exact(([], [("hold", ONE)] * 120)))


class ListsTest(unittest.TestCase):
    def test_no_two_lists_are_one(self):
        found = lists_in(read(ALL_FORMS)) + lists_in(read(ALL_FORMS))
        self.assertEqual(len({id(one): one for one in found}), len(found))
        self.assertEqual(len(found), 2 * 14)

    def test_what_is_told_may_be_changed(self):
        before = exact(read(ALL_FORMS))
        for one in lists_in(read(ALL_FORMS)):
            one.append("changed")
        for one in lists_in(read(ALL_FORMS)):
            one.clear()
        self.assertEqual(exact(read(ALL_FORMS)), before)

    def test_a_told_program_stays_as_it_is_while_others_are_read(self):
        told = read(ALL_FORMS)
        before = exact(told)
        read(text_of("sub a", "hold 2", "end", "hold 2", "if 1 < 2", "hold 2", "end"))
        self.assertEqual(exact(told), before)


if __name__ == "__main__":
    unittest.main()
