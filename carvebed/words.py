"""The words of a row: names, numbers and expressions."""

from carvebed.errors import NoRow

SMALL_LETTERS = "abcdefghijklmnopqrstuvwxyz"
FIGURES = "0123456789"
JOINTS = "+-*()"
KEPT_WORDS = (
    "hold", "fast", "slow", "by", "let", "times", "if", "else", "end", "sub", "call", "x", "y", "z",
)
MOST_LETTERS = 8
MOST_FIGURES = 6
MOST_SIGNS = 60
MOST_BRACKETS = 5


def is_written_in(word, signs):
    return all([sign in signs for sign in word])


def is_name(word):
    return 1 <= len(word) <= MOST_LETTERS and is_written_in(word, SMALL_LETTERS) and word not in KEPT_WORDS


def is_number(word):
    if not 1 <= len(word) <= MOST_FIGURES or not is_written_in(word, FIGURES):
        return False
    return word == "0" or word[0] != "0"


class Scan:
    def __init__(self, word):
        self.word = word
        self.at = 0
        self.brackets = 0

    # A text without signs tells the word's end, which no sign that is looked for is like.
    def sign_ahead(self):
        return self.word[self.at:self.at + 1]

    def take_sign(self):
        sign = self.sign_ahead()
        self.at += 1
        return sign

    def take_terms(self):
        told = self.take_factors()
        while self.sign_ahead() in ("+", "-"):
            sign = self.take_sign()
            told = (sign, told, self.take_factors())
        return told

    def take_factors(self):
        told = self.take_factor()
        while self.sign_ahead() == "*":
            sign = self.take_sign()
            told = (sign, told, self.take_factor())
        return told

    def take_factor(self):
        if self.sign_ahead() == "(":
            return self.take_brackets()
        piece = self.take_piece()
        if is_number(piece):
            return ("number", int(piece))
        if is_name(piece):
            return ("name", piece)
        raise NoRow(f"neither a number nor a name: {piece!r}")

    def take_brackets(self):
        if self.brackets == MOST_BRACKETS:
            raise NoRow("brackets stand at most 5 deep")
        self.brackets += 1
        self.take_sign()
        told = self.take_terms()
        if self.take_sign() != ")":
            raise NoRow("a bracket is not closed")
        self.brackets -= 1
        return told

    def take_piece(self):
        start = self.at
        while self.at < len(self.word) and self.sign_ahead() not in JOINTS:
            self.at += 1
        return self.word[start:self.at]


def expression(word):
    if len(word) > MOST_SIGNS:
        raise NoRow("a word has at most 60 signs")
    scan = Scan(word)
    told = scan.take_terms()
    if scan.at < len(word):
        raise NoRow(f"no expression: {word!r}")
    return told
