"""Point 16: a bed's spans, the bed of spans, and moves done on spans; point 2: what is handed in and told."""

import copy
import unittest

from carvebed.beds import carved
from carvebed.spans import bed_of, carved_spans, spans_of
from tests.helper import DOT, HOOK, Draws, all_apart, exact, lists_in


class SpansOfTest(unittest.TestCase):
    def assert_spans(self, bed, spans):
        self.assertEqual(exact(spans_of(bed)), exact(spans))
        self.assertEqual(exact(bed_of(spans, len(bed[0]))), exact(bed))

    def test_one_cell(self):
        for height in (0, 1, 999, 1000):
            self.assert_spans([[height]], [[(0, height)]])

    def test_rows_of_one_height(self):
        for width in (1, 2, 5, 40):
            self.assert_spans([[7] * width, [0] * width, [1000] * width], [[(0, 7)], [(0, 0)], [(0, 1000)]])

    def test_all_unlike(self):
        self.assert_spans([[3, 1, 2, 0]], [[(0, 3), (1, 1), (2, 2), (3, 0)]])
        self.assert_spans([[5, 6, 5, 6]], [[(0, 5), (1, 6), (2, 5), (3, 6)]])
        self.assert_spans([list(range(40))], [[(x, x) for x in range(40)]])

    def test_some_alike(self):
        self.assert_spans([[5, 5, 6, 6, 6, 5]], [[(0, 5), (2, 6), (5, 5)]])
        self.assert_spans([[5, 6, 6, 6, 6, 6]], [[(0, 5), (1, 6)]])
        self.assert_spans([[5, 5, 5, 5, 5, 6]], [[(0, 5), (5, 6)]])

    def test_each_row_by_itself(self):
        self.assert_spans([[1, 1], [1, 2], [2, 2]], [[(0, 1)], [(0, 1), (1, 2)], [(0, 2)]])

    def test_one_place_a_row(self):
        self.assert_spans([[4], [4], [5]], [[(0, 4)], [(0, 4)], [(0, 5)]])

    def test_somewhat_beyond(self):
        self.assert_spans([[1200] * 44 + [-3]] * 43, [[(0, 1200), (44, -3)]] * 43)

    def test_each_bed_from_its_spans_again(self):
        draws = Draws(5)
        for turn in range(200):
            width, depth = draws.between(1, 12), draws.between(1, 6)
            bed = [[draws.below(3) for x in range(width)] for y in range(depth)]
            spans = spans_of(bed)
            self.assertEqual(exact(bed_of(spans, width)), exact(bed))
            for row, heights in zip(spans, bed):
                self.assertEqual(row[0][0], 0)
                for one, other in zip(row, row[1:]):
                    self.assertLess(one[0], other[0])
                    self.assertNotEqual(one[1], other[1])
                self.assertLess(row[-1][0], width)


class CutsTest(unittest.TestCase):
    def assert_carved(self, spans, width, moves, left, taken, bite=1000, foot=DOT):
        self.assertEqual(exact(carved_spans(spans, width, [(foot, bite)], moves)), exact((left, taken, None)))

    def test_no_moves_at_all(self):
        self.assert_carved([[(0, 5), (3, 6)], [(0, 5)]], 9, [], [[(0, 5), (3, 6)], [(0, 5)]], [])

    def test_a_cut_within_a_span(self):
        way = [("hold", 0), ("fast", "x", 3), ("slow", "z", 400), ("slow", "x", 5)]
        self.assert_carved([[(0, 500)]], 9, way, [[(0, 500), (3, 400), (6, 500)]], [0, 0, 100, 200])

    def test_a_cut_at_a_rows_beginning_and_end(self):
        way = [("hold", 0), ("slow", "z", 400), ("slow", "x", 2)]
        self.assert_carved([[(0, 500)]], 9, way, [[(0, 400), (3, 500)]], [0, 100, 200])
        way = [("hold", 0), ("fast", "x", 8), ("slow", "z", 400), ("slow", "x", 6)]
        self.assert_carved([[(0, 500)]], 9, way, [[(0, 500), (6, 400)]], [0, 0, 100, 200])
        way = [("hold", 0), ("slow", "z", 400), ("slow", "x", 8)]
        self.assert_carved([[(0, 500)]], 9, way, [[(0, 400)]], [0, 100, 800])

    def test_a_cut_that_makes_heights_alike(self):
        # The cut ones among themselves, and with the neighbours on both sides.
        spans = [[(0, 400), (2, 500), (4, 600), (5, 700), (7, 400), (8, 300)]]
        way = [("hold", 0), ("fast", "x", 2), ("slow", "z", 400), ("slow", "x", 6)]
        self.assert_carved(spans, 9, way, [[(0, 400), (8, 300)]], [0, 0, 100, 100 + 200 + 600])

    def test_a_cut_that_makes_two_of_one_height_one(self):
        spans = [[(0, 400), (3, 500), (4, 400)]]
        way = [("hold", 0), ("fast", "x", 3), ("slow", "z", 400)]
        self.assert_carved(spans, 9, way, [[(0, 400)]], [0, 0, 100])

    def test_a_cut_over_lower_spans(self):
        spans = [[(0, 500), (2, 100), (4, 500), (5, 450), (6, 30)]]
        way = [("hold", 0), ("slow", "z", 450), ("slow", "x", 6)]
        self.assert_carved(spans, 9, way, [[(0, 450), (2, 100), (4, 450), (6, 30)]], [0, 50, 100])

    def test_nothing_to_cut(self):
        spans = [[(0, 300), (2, 100), (4, 200)]]
        way = [("hold", 0), ("slow", "z", 300), ("slow", "x", 8)]
        self.assert_carved(spans, 9, way, spans, [0, 0, 0])

    def test_rows_apart(self):
        spans = [[(0, 500)], [(0, 500), (1, 400)], [(0, 300)], [(0, 500)]]
        way = [("hold", 0), ("fast", "x", 1), ("slow", "z", 350), ("slow", "y", 2)]
        left = [[(0, 500), (1, 350), (2, 500)], [(0, 500), (1, 350), (2, 400)], [(0, 300)], [(0, 500)]]
        self.assert_carved(spans, 4, way, left, [0, 0, 150, 50])

    def test_a_foot_with_gaps(self):
        foot = [(-2, 0), (0, 0), (2, 0), (1, 1)]
        way = [("hold", 0), ("fast", "x", 3), ("slow", "z", 400)]
        left = [[(0, 500), (1, 400), (2, 500), (3, 400), (4, 500), (5, 400), (6, 500)], [(0, 500), (4, 400), (5, 500)]]
        self.assert_carved([[(0, 500)], [(0, 500)]], 8, way, left, [0, 0, 400], foot=foot)
        way.append(("slow", "x", 4))
        left = [[(0, 500), (1, 400), (7, 500)], [(0, 500), (4, 400), (6, 500)]]
        self.assert_carved([[(0, 500)], [(0, 500)]], 8, way, left, [0, 0, 400, 400], foot=foot)

    def test_neighbours_of_unlike_heights_behind_each_move(self):
        draws = Draws(8)
        bed = [[draws.among((100, 110, 120)) for x in range(12)] for y in range(5)]
        moves = [("hold", 0), ("slow", "z", 115)]
        for turn in range(60):
            axis = draws.among(("x", "y", "z"))
            moves.append(("slow", axis, {"x": draws.below(12), "y": draws.below(5), "z": draws.between(90, 120)}[axis]))
        for many in range(len(moves) + 1):
            told = carved_spans(spans_of(bed), 12, [(HOOK, 1000)], moves[:many])
            self.assertEqual(exact(told[0]), exact(spans_of(bed_of(told[0], 12))))
            left, taken, fault = carved(bed, [(HOOK, 1000)], moves[:many])
            self.assertEqual(exact(told), exact((spans_of(left), taken, fault)))
            self.assertIsNone(fault)


class HandedInTest(unittest.TestCase):
    bed = [[500, 480, 480], [460, 460, 460]]
    spans = [[(0, 500), (1, 480)], [(0, 460)]]
    shelf = [(HOOK, 100), (DOT, 3)]
    moves = [("hold", 0), ("slow", "z", 455), ("slow", "x", 2), ("fast", "z", 1000), ("hold", 1), ("slow", "y", 1)]

    def askings(self):
        return [lambda: spans_of(self.bed), lambda: bed_of(self.spans, 3), lambda: bed_of([[(0, 1)]] * 3, 2),
                lambda: spans_of([[4, 4]] * 3), lambda: carved_spans(self.spans, 3, self.shelf, []),
                lambda: carved_spans(self.spans, 3, self.shelf, self.moves),
                lambda: carved_spans(self.spans, 3, self.shelf, [("slow", "x", 0)])]

    def test_all_stays_as_it_was(self):
        handed = copy.deepcopy((self.bed, self.spans, self.shelf, self.moves))
        for last in ([], [("slow", "x", 9)], [("slow", "z", 0)], [("hold", 9)], [("fast", "z", 0)]):
            asked = copy.deepcopy((self.bed, self.spans, self.shelf, self.moves + last))
            before = exact(asked)
            spans_of(asked[0])
            bed_of(asked[1], 3)
            carved_spans(asked[1], 3, asked[2], asked[3])
            self.assertEqual(exact(asked), before)
        self.assertEqual(exact(handed), exact((self.bed, self.spans, self.shelf, self.moves)))

    def test_told_again_the_same(self):
        for asked in self.askings():
            before = exact(asked())
            for one in lists_in(asked()):
                one.append("changed")
            for one in lists_in(asked()):
                one.clear()
            self.assertEqual(exact(asked()), before)

    def test_no_two_lists_are_one(self):
        for asked in self.askings():
            found = lists_in(asked()) + lists_in(self.bed) + lists_in(self.spans) + lists_in(self.shelf) + [self.moves]
            self.assertTrue(all_apart(found))

    def test_a_row_that_stands_twice(self):
        row = [(0, 500)]
        told = carved_spans([row, row], 2, [(DOT, 10)], [("hold", 0), ("slow", "z", 490)])
        self.assertEqual(told, ([[(0, 490), (1, 500)], [(0, 500)]], [0, 10], None))
        self.assertTrue(all_apart([row] + lists_in(told)))
        self.assertEqual(row, [(0, 500)])


if __name__ == "__main__":
    unittest.main()
