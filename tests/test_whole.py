"""Point 3, over the whole program: from a wished shape to moves, a program of them, its code, and the stuff left."""

import unittest

from carvebed.beds import carved
from carvebed.coder import code_of
from carvebed.fewer import fewer, told_apart
from carvebed.machine import do_code
from carvebed.plain import run_plainly
from carvebed.plans import moves_for, needed
from carvebed.programs import read
from carvebed.reach import had, why_left
from carvebed.spans import bed_of, carved_spans, spans_of
from tests.helper import Draws, cells_of, drawn_shelf, drawn_wishes, exact, text_of, under

MOST_ROWS = 120


def row_of(move):
    return " ".join([str(part) for part in move])


class WholeTest(unittest.TestCase):
    def assert_programs(self, moves):
        """The moves as programs of so many rows as one may have: all of them, run both ways, make these very moves."""
        for start in range(0, len(moves), MOST_ROWS):
            some = moves[start:start + MOST_ROWS]
            program = read(text_of(*[row_of(move) for move in some]))
            self.assertEqual(exact(run_plainly(program)), exact((some, ("done",))))
            self.assertEqual(exact(do_code(code_of(program))), exact((some, ("done",))))

    def assert_left(self, bed, shelf, moves, told):
        left, taken, fault = carved(bed, shelf, moves)
        self.assertEqual((left, fault), (told, None))
        spans, taken_by_spans, fault = carved_spans(spans_of(bed), len(bed[0]), shelf, moves)
        self.assertEqual((bed_of(spans, len(bed[0])), taken_by_spans, fault), (told, taken, None))
        self.assertEqual(sum(taken), sum(map(sum, bed)) - sum(map(sum, told)))

    def assert_fewer(self, bed, shelf, moves, told):
        some = fewer(bed, shelf, moves)
        rest = iter(moves)
        self.assertTrue(all(any(move == other for other in rest) for move in some))
        self.assert_left(bed, shelf, some, told)
        self.assertIsNone(told_apart(bed, shelf, moves, some))
        self.assertIsNone(told_apart(bed, shelf, some, moves))
        for at in range(0, len(some), 1 + len(some) // 40):
            left, taken, fault = carved(bed, shelf, some[:at] + some[at + 1:])
            self.assertTrue(fault is not None or left != told, (at, some))

    def assert_why(self, bed, wished, shelf, told):
        """That each cutter, at each place over a cell left too high, would spoil a cell if it went lower than is left."""
        for x, y in cells_of(bed):
            self.assertGreaterEqual(told[y][x], wished[y][x])
            if told[y][x] > wished[y][x]:
                shown = why_left(bed, wished, shelf, x, y)
                places = sorted([(number, x - dx, y - dy) for number, cutter in enumerate(shelf) for dx, dy in cutter[0]
                                 if x - dx in range(len(bed[0])) and y - dy in range(len(bed))])
                self.assertEqual([one[:3] for one in shown], places)
                for number, px, py, cx, cy in shown:
                    self.assertIn((cx, cy), under(bed, shelf[number], px, py))
                    self.assertGreaterEqual(wished[cy][cx], told[y][x])

    def assert_all(self, seed, width, depth):
        draws = Draws(seed)
        bed, wished = drawn_wishes(draws, width, depth)
        shelf = drawn_shelf(draws)
        before = exact((bed, wished, shelf))
        told = had(bed, wished, shelf)
        moves = moves_for(bed, wished, shelf)
        self.assert_programs(moves)
        self.assert_left(bed, shelf, moves, told)
        self.assertEqual(sorted({move[1] for move in moves if move[0] == "hold"}), needed(bed, wished, shelf))
        if len(moves) <= 3000:
            self.assert_fewer(bed, shelf, moves, told)
        self.assert_why(bed, wished, shelf, told)
        self.assertEqual(exact((bed, wished, shelf)), before)
        return len(moves)

    def test_of_many_sizes(self):
        sizes = [(width, depth) for width in (2, 3, 5, 8) for depth in (2, 3, 6, 9)]
        many = [self.assert_all(seed, *sizes[seed % len(sizes)]) for seed in range(160)]
        self.assertGreater(len([one for one in many if one > 0]), 100)
        self.assertGreater(len([one for one in many if one > MOST_ROWS]), 10)

    def test_of_one_cell_one_row_and_one_place_a_row(self):
        many = [self.assert_all(seed, *((1, 1), (7, 1), (1, 6))[seed % 3]) for seed in range(1000, 1090)]
        self.assertGreater(len([one for one in many if one > 0]), 50)

    def test_of_forty_by_forty(self):
        for seed in (2003, 2007, 2008):
            self.assert_all(seed, 40, 40)


if __name__ == "__main__":
    unittest.main()
