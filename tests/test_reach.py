"""Points 17 and 18: what of a wished shape can be had, and why no more; point 2: what is handed in and told."""

import copy
import unittest

from carvebed.beds import carved
from carvebed.reach import had, lowest_at, why_left
from tests.helper import (DOT, HOOK, Draws, all_apart, cells_of, drawn_shelf, drawn_wishes, exact, flat, lists_in,
                          under)

PAIR = [(0, 0), (1, 0)]
LINE = [(0, 0), (-1, 0), (1, 0)]
SQUARE = [(dx, dy) for dx in (-1, 0, 1) for dy in (-1, 0, 1)]
# Each height stands there once, so that it tells where it was taken from.
NUMBERED = [[11, 18, 13, 16], [15, 12, 17, 14], [19, 10, 21, 20]]


def lowest_by_the_words(bed, wished, shelf, x, y):
    lowests = [max(under(wished, cutter, px, py).values()) for cutter in shelf for px, py in cells_of(bed)
               if (x, y) in under(bed, cutter, px, py)]
    return min(lowests + [bed[y][x]])


def had_by_the_words(bed, wished, shelf):
    return [[lowest_by_the_words(bed, wished, shelf, x, y) for x in range(len(row))] for y, row in enumerate(bed)]


def why_by_the_words(bed, wished, shelf, x, y):
    left = lowest_by_the_words(bed, wished, shelf, x, y)
    told = []
    for number, cutter in enumerate(shelf):
        for px in range(len(bed[0])):
            for py in range(len(bed)):
                met = under(wished, cutter, px, py)
                if (x, y) in met:
                    told.append((number, px, py) + [cell for cell in met if met[cell] >= left][0])
    return told


class LowestAtTest(unittest.TestCase):
    def assert_lowest(self, height, cutter, x, y):
        self.assertEqual(exact(lowest_at(NUMBERED, cutter, x, y)), exact(height), (cutter, x, y))

    def test_one_cell(self):
        for x, y in cells_of(NUMBERED):
            self.assert_lowest(NUMBERED[y][x], (DOT, 1), x, y)

    def test_at_the_first_cell(self):
        self.assert_lowest(19, (HOOK, 1), 0, 0)
        self.assert_lowest(18, (PAIR, 1), 0, 0)
        self.assert_lowest(11, ([(0, 0), (-1, 0)], 1), 0, 0)
        self.assert_lowest(15, ([(0, 0), (0, 1)], 1), 0, 0)
        self.assert_lowest(11, ([(0, 0), (0, -1)], 1), 0, 0)
        self.assert_lowest(18, (SQUARE, 1), 0, 0)

    def test_at_the_last_cell(self):
        self.assert_lowest(20, (HOOK, 1), 3, 2)
        self.assert_lowest(20, (PAIR, 1), 3, 2)
        self.assert_lowest(21, ([(0, 0), (-1, 0)], 1), 3, 2)
        self.assert_lowest(20, ([(0, 0), (0, -1)], 1), 3, 2)
        self.assert_lowest(21, (SQUARE, 1), 3, 2)
        self.assert_lowest(20, ([(3, 0), (0, 0), (0, 3), (-2, -2)], 1), 3, 2)

    def test_not_alike_on_all_sides(self):
        self.assert_lowest(17, (HOOK, 1), 1, 1)
        self.assert_lowest(18, (HOOK, 1), 2, 1)
        self.assert_lowest(19, ([(0, 0), (-1, 1)], 1), 1, 1)
        self.assert_lowest(13, ([(0, 0), (1, -1)], 1), 1, 1)
        self.assert_lowest(16, ([(2, -1), (0, 0)], 1), 1, 1)

    def test_cells_outside_the_bed(self):
        wide = [(0, 0), (3, 3), (-3, -3), (3, -3), (-3, 3)]
        for x, y in cells_of(NUMBERED):
            self.assert_lowest(NUMBERED[y][x], (wide, 1), x, y)
        self.assertEqual(lowest_at([[7]], (SQUARE, 1), 0, 0), 7)

    def test_the_bite_is_no_matter(self):
        for bite in (1, 2, 1000):
            self.assert_lowest(17, (HOOK, bite), 1, 1)

    def test_heights_at_their_bounds(self):
        for height in (0, 1000):
            self.assertEqual(exact(lowest_at(flat(3, 3, height), (SQUARE, 1), 1, 1)), exact(height))
        self.assertEqual(lowest_at([[0, 1000]], (PAIR, 1), 0, 0), 1000)
        self.assertEqual(lowest_at([[1000, 0]], (PAIR, 1), 1, 0), 0)


class HadTest(unittest.TestCase):
    def assert_had(self, told, bed, wished, shelf):
        self.assertEqual(exact(had(bed, wished, shelf)), exact(told))
        self.assertEqual(had_by_the_words(bed, wished, shelf), told)

    def test_one_cell_has_all_that_is_wished(self):
        self.assert_had(NUMBERED, flat(4, 3, 30), NUMBERED, [(DOT, 1)])

    def test_of_one_cutter(self):
        # At x 0 to 3 it may go down to 5, 5, 4 and 4; then to 5, 5, 9 and 9; then to 5, 9, 9 and 4.
        self.assert_had([[5, 5, 4, 4]], [[10, 10, 10, 10]], [[3, 5, 0, 4]], [(PAIR, 1)])
        self.assert_had([[5, 5, 5, 9]], [[10, 10, 10, 10]], [[3, 5, 0, 9]], [(PAIR, 1)])
        self.assert_had([[5, 5, 9, 4]], [[10, 10, 10, 4]], [[3, 5, 9, 4]], [(PAIR, 1)])
        # At x 0 to 2 down to 6, 4 and 6.
        self.assert_had([[4, 4, 6]], [[9, 9, 9]], [[2, 4, 6]], [([(0, 0), (-1, 0), (2, 0)], 1)])

    def test_of_more_cutters(self):
        bed = flat(4, 4, 9)
        wished = [[7, 7, 7, 7], [7, 1, 1, 7], [7, 2, 7, 7], [7, 2, 7, 7]]
        across = (PAIR, 1)
        down = ([(0, 0), (0, 1)], 1)
        self.assert_had([[7, 7, 7, 7], [7, 1, 1, 7], [7, 7, 7, 7], [7, 7, 7, 7]], bed, wished, [across])
        self.assert_had([[7, 7, 7, 7], [7, 2, 7, 7], [7, 2, 7, 7], [7, 2, 7, 7]], bed, wished, [down])
        for shelf in ([across, down], [down, across], [down, across, down, (SQUARE, 1)]):
            self.assert_had([[7, 7, 7, 7], [7, 1, 1, 7], [7, 2, 7, 7], [7, 2, 7, 7]], bed, wished, shelf)

    def test_a_cell_under_no_cutter_but_at_its_own_place(self):
        # The foot's other cell is to the right: the first cell is under it at its own place alone.
        self.assert_had([[8, 8]], [[20, 20]], [[3, 8]], [(PAIR, 1)])
        self.assert_had([[3, 0]], [[20, 20]], [[3, 0]], [(PAIR, 1)])
        self.assert_had([[7]], [[20]], [[7]], [(SQUARE, 1)])
        far = [(0, 0), (3, 0), (0, 3)]
        self.assert_had([[1, 2], [3, 4]], flat(2, 2, 9), [[1, 2], [3, 4]], [(far, 1)])

    def test_a_cell_whose_own_height_is_the_least(self):
        self.assert_had([[4, 9]], [[4, 20]], [[3, 9]], [(PAIR, 1)])
        self.assert_had([[9, 9]], [[9, 20]], [[3, 9]], [(PAIR, 1)])
        self.assert_had([[0, 9]], [[0, 20]], [[0, 9]], [(PAIR, 1)])

    def test_wished_as_the_bed_is(self):
        for shelf in ([(DOT, 1)], [(HOOK, 1)], [(SQUARE, 5), (HOOK, 1), (DOT, 1)]):
            self.assert_had(NUMBERED, NUMBERED, NUMBERED, shelf)
            self.assert_had([[0]], [[0]], [[0]], shelf)
            self.assert_had([[1000]], [[1000]], [[1000]], shelf)

    def test_heights_at_their_bounds(self):
        for shelf in ([(DOT, 1)], [(HOOK, 1)], [(SQUARE, 5)]):
            self.assert_had(flat(3, 2, 0), flat(3, 2, 1000), flat(3, 2, 0), shelf)
            self.assert_had(flat(3, 2, 1000), flat(3, 2, 1000), flat(3, 2, 1000), shelf)
        self.assert_had([[0, 0, 1000]], [[1000] * 3], [[0, 0, 1000]], [(LINE, 1)])
        self.assert_had([[1000] * 3], [[1000] * 3], [[1000, 0, 1000]], [(LINE, 1)])

    def test_the_greatest_bed(self):
        wished = flat(40, 40, 0)
        wished[20][20] = 1000
        square = [(dx, dy) for dx in range(-2, 3) for dy in range(-2, 3)]
        told = flat(40, 40, 0)
        told[20][20] = 1000
        self.assertEqual(had(flat(40, 40, 1000), wished, [(square, 1)] * 6), told)

    def test_somewhat_beyond(self):
        wished = flat(43, 42, 3)
        wished[0][0] = 4
        told = had(flat(43, 42, 5), wished, [([(dx, 0) for dx in range(-14, 15)], 2000)] * 8)
        self.assertEqual(told[0], [4] + [3] * 42)
        self.assertEqual(told[1:], flat(43, 41, 3))

    def test_drawn(self):
        for seed in range(150):
            draws = Draws(seed)
            bed, wished = drawn_wishes(draws, draws.between(1, 6), draws.between(1, 6))
            shelf = drawn_shelf(draws)[:3]
            self.assert_had(had_by_the_words(bed, wished, shelf), bed, wished, shelf)


class NoLowerTest(unittest.TestCase):
    """Moves drawn one by one, those left out that are a fault or spoil something."""

    def moves_that_spoil_nothing(self, draws, bed, wished, shelf):
        heights = sorted({height for row in wished for height in row}) + [1000]
        moves = [("hold", draws.below(len(shelf)))]
        for turn in range(60):
            what = draws.below(7)
            if what == 0:
                more = [("slow", "z", 1000), ("hold", draws.below(len(shelf)))]
            elif what < 4:
                more = [("slow", "z", draws.among(heights))]
            elif what < 6:
                more = [("slow", "x", draws.below(len(bed[0])))]
            else:
                more = [("slow", "y", draws.below(len(bed)))]
            left, taken, fault = carved(bed, shelf, moves + more)
            if fault is None and all(left[y][x] >= wished[y][x] for x, y in cells_of(bed)):
                moves = moves + more
        return moves

    def test_no_cell_is_left_lower(self):
        just_as_low = 0
        left_higher_than_wished = 0
        for seed in range(120):
            draws = Draws(seed)
            bed, wished = drawn_wishes(draws, draws.between(1, 6), draws.between(1, 6))
            shelf = [(foot[:5] + [(0, 0)] * ((0, 0) not in foot[:5]), 1000) for foot, bite in drawn_shelf(draws)]
            told = had(bed, wished, shelf)
            left = carved(bed, shelf, self.moves_that_spoil_nothing(draws, bed, wished, shelf))[0]
            for x, y in cells_of(bed):
                self.assertGreaterEqual(left[y][x], told[y][x], (seed, x, y))
                just_as_low += bed[y][x] > left[y][x] == told[y][x]
                left_higher_than_wished += bed[y][x] > told[y][x] > wished[y][x]
        self.assertGreater(just_as_low, 400)
        self.assertGreater(left_higher_than_wished, 60)


class WhyLeftTest(unittest.TestCase):
    def assert_why(self, told, bed, wished, shelf, x, y):
        self.assertEqual(exact(why_left(bed, wished, shelf, x, y)), exact(told))
        self.assertEqual(why_by_the_words(bed, wished, shelf, x, y), told)

    def test_one_cutter(self):
        self.assert_why([(0, 0, 0, 1, 0)], [[20, 20]], [[3, 8]], [(PAIR, 1)], 0, 0)
        self.assert_why([(0, 0, 0, 0, 0), (0, 1, 0, 2, 0)], [[20] * 3], [[8, 3, 7]], [(PAIR, 1)], 1, 0)
        self.assert_why([(0, 0, 0, 0, 0), (0, 1, 0, 2, 0)], [[20] * 3], [[7, 3, 8]], [(PAIR, 1)], 1, 0)

    def test_a_height_just_as_great_as_what_is_left(self):
        # 7 is left; the first cell that is wished so high is told, though another one is higher.
        told = [(0, 0, 0, 0, 0), (0, 1, 0, 0, 0), (0, 2, 0, 2, 0)]
        self.assert_why(told, [[9, 9, 9]], [[7, 3, 8]], [(LINE, 1)], 1, 0)

    def test_where_the_cells_own_height_is_left(self):
        self.assert_why([(0, 0, 0, 1, 0)], [[4, 9]], [[3, 9]], [(PAIR, 1)], 0, 0)
        # 4 is left, and a cell that is wished at 5 and not at 9 is the first that is as high.
        self.assert_why([(0, 0, 0, 0, 0), (0, 1, 0, 0, 0), (0, 2, 0, 2, 0)], [[9, 4, 9]], [[5, 3, 9]], [(LINE, 1)], 1, 0)

    def test_rising_by_cutter_then_x_then_y(self):
        bed = flat(3, 3, 9)
        wished = flat(3, 3, 6)
        wished[1][1] = 2
        told = why_left(bed, wished, [(SQUARE[::-1], 1), (HOOK, 1), (PAIR[::-1], 1)], 1, 1)
        places = [one[:3] for one in told]
        self.assertEqual(places, [(0, x, y) for x in range(3) for y in range(3)] + [(1, 0, 1), (1, 1, 1), (1, 2, 2)]
                         + [(2, 0, 1), (2, 1, 1)])
        self.assert_why(told, bed, wished, [(SQUARE[::-1], 1), (HOOK, 1), (PAIR[::-1], 1)], 1, 1)

    def test_the_first_cell_by_y_then_by_x(self):
        bed = flat(3, 3, 9)
        wished = [[1, 1, 5], [5, 1, 5], [5, 5, 5]]
        for foot in (SQUARE, SQUARE[::-1], SQUARE[4:] + SQUARE[:4]):
            told = dict([(one[1:3], one[3:]) for one in why_left(bed, wished, [(foot, 1)], 1, 1)])
            self.assertEqual(told, {(0, 0): (0, 1), (0, 1): (0, 1), (0, 2): (0, 1), (1, 0): (2, 0), (1, 1): (2, 0),
                                    (1, 2): (0, 1), (2, 0): (2, 0), (2, 1): (2, 0), (2, 2): (2, 1)})

    def test_at_the_edges(self):
        bed = flat(3, 3, 9)
        wished = [[1, 4, 1], [4, 4, 4], [1, 4, 1]]
        self.assert_why([(0, 0, 0, 1, 0), (0, 0, 1, 1, 0), (0, 1, 0, 1, 0), (0, 1, 1, 1, 0)], bed, wished,
                        [(SQUARE, 1)], 0, 0)
        self.assert_why([(0, 1, 1, 1, 0), (0, 1, 2, 0, 1), (0, 2, 1, 1, 0), (0, 2, 2, 1, 1)], bed, wished,
                        [(SQUARE, 1)], 2, 2)
        # The foot's cells to the left and up, at the last cell; the places outside the bed are not told.
        self.assert_why([(0, 2, 2, 1, 2)], bed, wished, [([(0, 0), (-1, 0)], 1)], 2, 2)
        self.assert_why([(0, 1, 0, 0, 0), (0, 2, 0, 1, 0)], [[9, 9, 9]], [[9, 5, 2]], [(LINE, 1)], 2, 0)

    def test_drawn(self):
        asked = 0
        for seed in range(100):
            draws = Draws(seed)
            bed, wished = drawn_wishes(draws, draws.between(1, 7), draws.between(1, 7))
            shelf = drawn_shelf(draws)[:3]
            told = had(bed, wished, shelf)
            for x, y in cells_of(bed):
                if told[y][x] > wished[y][x]:
                    asked += 1
                    self.assert_why(why_by_the_words(bed, wished, shelf, x, y), bed, wished, shelf, x, y)
        self.assertGreater(asked, 200)


class HandedInTest(unittest.TestCase):
    bed = [[90, 90, 80], [70, 90, 90]]
    wished = [[10, 50, 60], [70, 20, 30]]
    shelf = [(HOOK, 5), (PAIR, 1)]

    def askings(self):
        return [lambda: had(self.bed, self.wished, self.shelf), lambda: why_left(self.bed, self.wished, self.shelf, 0, 0),
                lambda: had(self.bed, self.bed, self.shelf)]

    def test_all_stays_as_it_was(self):
        handed = copy.deepcopy((self.bed, self.wished, self.shelf))
        before = exact(handed)
        had(*handed)
        why_left(*handed, 0, 0)
        lowest_at(handed[1], handed[2][0], 1, 1)
        self.assertEqual(exact(handed), before)

    def test_told_again_the_same(self):
        for asked in self.askings():
            before = exact(asked())
            for one in lists_in(asked()):
                one.append("changed")
            for one in lists_in(asked()):
                one.clear()
            self.assertEqual(exact(asked()), before)

    def test_no_two_lists_are_one(self):
        row = [9, 9]
        for asked in self.askings() + [lambda: had([row] * 3, [row] * 3, [(DOT, 1)])]:
            found = lists_in(asked()) + lists_in(asked())
            self.assertTrue(all_apart(found + lists_in(self.bed) + lists_in(self.wished) + lists_in(self.shelf) + [row]))


if __name__ == "__main__":
    unittest.main()
