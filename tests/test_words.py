"""Point 4: names, numbers and expressions; their tuples as in point 6."""

import unittest

from carvebed.words import expression, is_name
from tests.helper import exact, refusal_of

KEPT_WORDS = ("hold", "fast", "slow", "by", "let", "times", "if", "else", "end", "sub", "call", "x", "y", "z")


def number(n):
    return ("number", n)


def name(n):
    return ("name", n)


class NamesTest(unittest.TestCase):
    def assert_name(self, word):
        self.assertIs(is_name(word), True, word)
        self.assertEqual(exact(expression(word)), exact(("name", word)))

    def assert_no_name(self, word):
        self.assertIs(is_name(word), False, word)

    def test_one_letter(self):
        for letter in "abcdefghijklmnopqrstuvw":
            self.assert_name(letter)

    def test_one_to_eight_letters(self):
        for length in range(1, 9):
            self.assert_name("abcdefgh"[:length])
            self.assert_name("z" * (length - 1) + "q")
        self.assert_name("zyxwvuts")

    def test_nine_letters_and_more(self):
        for word in ("abcdefghi", "aaaaaaaaa", "a" * 10, "a" * 60):
            self.assert_no_name(word)
            self.assertEqual(refusal_of(expression, word), ["NoRow"], word)

    def test_the_words_taken_out(self):
        for word in KEPT_WORDS:
            self.assert_no_name(word)
            self.assertEqual(refusal_of(expression, word), ["NoRow"], word)
            self.assertEqual(refusal_of(expression, "1+" + word), ["NoRow"], word)
            self.assertEqual(refusal_of(expression, "(" + word + ")*2"), ["NoRow"], word)

    def test_words_that_begin_or_end_like_those_taken_out(self):
        for word in KEPT_WORDS:
            self.assert_name(word + "a")
            self.assert_name(word + "s")
            self.assert_name("a" + word)
            self.assert_name(word + word if len(word) < 5 else word + "e")
        for word in ("hol", "fas", "slo", "b", "le", "time", "i", "els", "en", "su", "cal", "xy", "xyz"):
            self.assert_name(word)

    def test_other_words_of_the_document_are_names(self):
        for word in ("move", "number", "name", "done", "big", "deep", "long", "unknown", "none", "true", "and", "for"):
            self.assert_name(word)

    def test_the_word_without_signs(self):
        self.assert_no_name("")

    def test_other_signs(self):
        for word in ("A", "aB", "Hold", "a1", "1a", "1", "a_b", "_", "a b", " a", "a ", "a\n", "\n", "\na", "a-b",
                     "a+b", "(a)", "a.", "a'", "~", "`", "{", "@", "["):
            self.assert_no_name(word)


class NumbersTest(unittest.TestCase):
    def test_one_to_six_figures(self):
        for n in (0, 1, 5, 9, 10, 42, 100, 305, 1000, 20000, 100000, 123456, 700000, 999999):
            self.assertEqual(exact(expression(str(n))), exact(("number", n)))

    def test_each_figure(self):
        for figure in "123456789":
            self.assertEqual(expression(figure), ("number", int(figure)))
            self.assertEqual(expression(figure + "0"), ("number", int(figure) * 10))

    def test_seven_figures(self):
        for word in ("1000000", "1234567", "9999999", "12345678", "1+1000000", "1000000*0"):
            self.assertEqual(refusal_of(expression, word), ["NoRow"], word)

    def test_noughts_ahead(self):
        for word in ("00", "01", "007", "000000", "000001", "012345", "0123456", "0000001", "a+01", "(00)"):
            self.assertEqual(refusal_of(expression, word), ["NoRow"], word)

    def test_what_is_no_number(self):
        for word in ("1_0", "1e3", "1.5", "1,5", "0x1", "1 ", " 1", "1\n", "-1", "+1", "-0", "1a", "a1", "2(3)", "'1'"):
            self.assertEqual(refusal_of(expression, word), ["NoRow"], word)


class ReckoningTest(unittest.TestCase):
    def assert_told(self, word, told):
        self.assertEqual(exact(expression(word)), exact(told))

    def test_each_sign(self):
        for sign in "+-*":
            self.assert_told("a" + sign + "12", (sign, name("a"), number(12)))
            self.assert_told("12" + sign + "a", (sign, number(12), name("a")))

    def test_from_left_to_right(self):
        for first in "+-":
            for second in "+-":
                self.assert_told("a" + first + "b" + second + "c", (second, (first, name("a"), name("b")), name("c")))
        self.assert_told("a*b*c", ("*", ("*", name("a"), name("b")), name("c")))
        self.assert_told("1-2-3-4", ("-", ("-", ("-", number(1), number(2)), number(3)), number(4)))

    def test_products_ahead(self):
        for sign in "+-":
            self.assert_told("a" + sign + "b*c", (sign, name("a"), ("*", name("b"), name("c"))))
            self.assert_told("a*b" + sign + "c", (sign, ("*", name("a"), name("b")), name("c")))
        self.assert_told("a*b-c*d+e", ("+", ("-", ("*", name("a"), name("b")), ("*", name("c"), name("d"))), name("e")))
        self.assert_told("a-b*c*d-e", ("-", ("-", name("a"), ("*", ("*", name("b"), name("c")), name("d"))), name("e")))

    def test_brackets(self):
        self.assert_told("(a)", name("a"))
        self.assert_told("((7))", number(7))
        self.assert_told("a-(b-c)", ("-", name("a"), ("-", name("b"), name("c"))))
        self.assert_told("(a+b)*c", ("*", ("+", name("a"), name("b")), name("c")))
        self.assert_told("a*(b+c)", ("*", name("a"), ("+", name("b"), name("c"))))
        self.assert_told("a*(b*c)", ("*", name("a"), ("*", name("b"), name("c"))))
        self.assert_told("(a+1)*(b-2)", ("*", ("+", name("a"), number(1)), ("-", name("b"), number(2))))
        self.assert_told("(a-b)-c", ("-", ("-", name("a"), name("b")), name("c")))

    def test_a_minus_between_two_terms_alone(self):
        for word in ("-a", "-1", "a-", "a--b", "a+-b", "a-+b", "a*-b", "a-*b", "(-a)", "a*(-1)", "(a-)", "-", "--",
                     "-(a)", "(a)-"):
            self.assertEqual(refusal_of(expression, word), ["NoRow"], word)

    def test_other_signs_without_their_parts(self):
        for word in ("+a", "a+", "*a", "a*", "a++b", "a**b", "a+*b", "a*+b", "+", "*", "(+a)", "(a*)", "(*)", "a+()"):
            self.assertEqual(refusal_of(expression, word), ["NoRow"], word)

    def test_nothing_between_factors(self):
        for word in ("a(b)", "(a)b", "(a)(b)", "2a", "2(a)", "(2)a", "(a)2", "a2", "1(2)"):
            self.assertEqual(refusal_of(expression, word), ["NoRow"], word)


class FormTest(unittest.TestCase):
    def assert_refused(self, word):
        self.assertEqual(refusal_of(expression, word), ["NoRow"], word)

    def test_brackets_up_to_five_deep(self):
        for depth in range(1, 6):
            self.assertEqual(expression("(" * depth + "a" + ")" * depth), name("a"))
        self.assertEqual(expression("1+(2+(3+(4+(5+(6)))))")[0], "+")
        self.assertEqual(expression("(((((6)+5)+4)+3)+2)+1")[2], number(1))

    def test_brackets_six_deep(self):
        for depth in range(6, 30):
            self.assert_refused("(" * depth + "a" + ")" * depth)
        self.assert_refused("1+(2+(3+(4+(5+(6+(7))))))")
        self.assert_refused("((((((7)+6)+5)+4)+3)+2)+1")
        self.assert_refused("(((((1)+(2)*((3))))))")

    def test_brackets_beside_one_another(self):
        self.assertEqual(expression("(a)+(b)+(c)+(d)+(e)+(f)+(g)")[2], name("g"))
        self.assertEqual(expression("(((((a)))))*(((((b)))))"), ("*", name("a"), name("b")))
        self.assertEqual(expression("((((a)+(b)+(c)+(d))))")[2], name("d"))

    def test_brackets_that_do_not_close(self):
        for word in ("(", "(a", "((a)", "(a+b", "(a+(b)", "a+(", "(a(", "(((((a))))"):
            self.assert_refused(word)

    def test_brackets_that_were_never_opened(self):
        for word in (")", "a)", "(a))", "a+b)", ")a(", "a)+(b", ")(", "(a)))"):
            self.assert_refused(word)

    def test_brackets_without_an_expression(self):
        for word in ("()", "(())", "a()", "()a", "a*()"):
            self.assert_refused(word)

    def test_sixty_signs(self):
        told = name("aa")
        for turn in range(29):
            told = ("+", told, name("a"))
        word = "aa" + "+a" * 29
        self.assertEqual(len(word), 60)
        self.assertEqual(expression(word), told)
        self.assertEqual(expression("(((" + "1234*" * 10 + "1234)))")[2], number(1234))

    def test_sixty_one_signs_and_more(self):
        self.assertEqual(len("a" + "+a" * 30), 61)
        for word in ("a" + "+a" * 30, "a" + "+a" * 31, "a" + "*a" * 500, "a" + "+a" * 5000, "(" * 5000, "1" * 61):
            self.assert_refused(word)

    def test_signs_that_have_no_place(self):
        for sign in " !\"#$&',./:;<=>?@[\\]^_`{|}~\nABZ":
            for word in (sign, "a" + sign, sign + "a", "a" + sign + "b", "1" + sign + "2", "(a" + sign + ")",
                         "a" + sign + "+b", "a+" + sign + "b", "(a)" + sign):
                self.assert_refused(word)

    def test_the_word_without_signs(self):
        self.assert_refused("")


if __name__ == "__main__":
    unittest.main()
