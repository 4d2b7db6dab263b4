"""Points 13 to 15: what moves take off and what they leave; point 2: what is handed in and what is told."""

import copy
import unittest

from carvebed.beds import carved
from carvebed.spans import carved_spans, spans_of
from tests.helper import DOT, HOOK, all_apart, exact, flat, lists_in

SQUARE = [(dx, dy) for dx in (-2, -1, 0, 1, 2) for dy in (-2, -1, 0, 1, 2)]


def cut(bed, cells, height):
    return [[min(was, height) if (x, y) in cells else was for x, was in enumerate(row)] for y, row in enumerate(bed)]


class BedsTest(unittest.TestCase):
    def assert_carved(self, bed, shelf, moves, left, taken):
        self.assertEqual(exact(carved(bed, shelf, moves)), exact((left, taken, None)), moves)
        self.assertEqual(exact(carved_spans(spans_of(bed), len(bed[0]), shelf, moves)),
                         exact((spans_of(left), taken, None)), moves)


class SlowTest(BedsTest):
    def test_no_moves_at_all(self):
        for bed in ([[0]], [[1000]], [[1, 2], [3, 4]], flat(40, 40, 5)):
            self.assert_carved(bed, [(DOT, 1)], [], bed, [])

    def test_down(self):
        bed = flat(3, 3, 500)
        self.assert_carved(bed, [(DOT, 1000)], [("hold", 0), ("slow", "z", 350)], cut(bed, [(0, 0)], 350), [0, 150])
        self.assert_carved(bed, [(DOT, 1000)], [("hold", 0), ("slow", "z", 0)], cut(bed, [(0, 0)], 0), [0, 500])

    def test_no_cell_becomes_higher(self):
        bed = [[10, 700, 400]]
        self.assert_carved(bed, [(DOT, 1000)], [("hold", 0), ("slow", "z", 400), ("slow", "x", 2)], [[10, 400, 400]],
                           [0, 0, 300])

    def test_down_elsewhere(self):
        bed = flat(4, 5, 500)
        moves = [("hold", 0), ("fast", "x", 2), ("fast", "y", 3), ("slow", "z", 499)]
        self.assert_carved(bed, [(DOT, 1)], moves, cut(bed, [(2, 3)], 499), [0, 0, 0, 1])

    def test_along_x(self):
        bed = flat(6, 3, 500)
        moves = [("hold", 0), ("fast", "y", 1), ("fast", "x", 1), ("slow", "z", 450), ("slow", "x", 4)]
        self.assert_carved(bed, [(DOT, 50)], moves, cut(bed, [(1, 1), (2, 1), (3, 1), (4, 1)], 450), [0, 0, 0, 50, 150])

    def test_along_y(self):
        bed = flat(3, 6, 500)
        moves = [("hold", 0), ("fast", "y", 1), ("fast", "x", 1), ("slow", "z", 450), ("slow", "y", 4)]
        self.assert_carved(bed, [(DOT, 50)], moves, cut(bed, [(1, 1), (1, 2), (1, 3), (1, 4)], 450), [0, 0, 0, 50, 150])

    def test_back_along_x_and_y(self):
        bed = flat(6, 6, 500)
        moves = [("hold", 0), ("fast", "y", 4), ("fast", "x", 4), ("slow", "z", 450), ("slow", "x", 2), ("slow", "y", 1)]
        cells = [(4, 4), (3, 4), (2, 4), (2, 3), (2, 2), (2, 1)]
        self.assert_carved(bed, [(DOT, 50)], moves, cut(bed, cells, 450), [0, 0, 0, 50, 100, 150])

    def test_there_and_back_again(self):
        bed = flat(4, 1, 500)
        moves = [("hold", 0), ("slow", "z", 450), ("slow", "x", 3), ("slow", "x", 0), ("slow", "z", 440)]
        self.assert_carved(bed, [(DOT, 50)], moves, [[440, 450, 450, 450]], [0, 50, 150, 0, 10])

    def test_up(self):
        bed = flat(2, 1, 500)
        moves = [("hold", 0), ("slow", "z", 400), ("slow", "z", 600), ("slow", "z", 390), ("slow", "z", 1000)]
        self.assert_carved(bed, [(DOT, 100)], moves, [[390, 500]], [0, 100, 0, 10, 0])

    def test_lowest_at_the_beginning_and_at_the_end(self):
        bed = [[300, 330, 330]]
        foot = [(0, 0), (1, 0)]
        moves = [("hold", 0), ("slow", "z", 310), ("slow", "z", 700), ("slow", "x", 1), ("slow", "z", 320), ("slow", "z", 321)]
        self.assert_carved(bed, [(foot, 400)], moves, [[300, 310, 320]], [0, 20, 0, 0, 10, 0])

    def test_stuff_that_rises_over_the_top(self):
        # Somewhat beyond the bound: at 1000, where the carver begins, nothing is cut yet.
        self.assert_carved([[1030, 1030]], [(DOT, 30)], [("hold", 0), ("slow", "z", 1000)], [[1000, 1030]], [0, 30])
        self.assert_carved([[1030, 1030]], [(DOT, 30)], [("hold", 0), ("slow", "x", 1)], [[1000, 1000]], [0, 60])

    def test_to_where_the_cutter_is(self):
        bed = flat(3, 3, 500)
        moves = [("hold", 0), ("slow", "x", 0), ("slow", "y", 0), ("slow", "z", 1000), ("slow", "z", 480),
                 ("slow", "z", 480), ("slow", "x", 0), ("slow", "y", 0)]
        self.assert_carved(bed, [(DOT, 20)], moves, cut(bed, [(0, 0)], 480), [0, 0, 0, 0, 20, 0, 0, 0])

    def test_fast_moves_take_nothing(self):
        bed = flat(3, 3, 500)
        moves = [("hold", 0), ("fast", "z", 500), ("fast", "x", 2), ("fast", "y", 2), ("fast", "x", 0), ("fast", "z", 1000)]
        self.assert_carved(bed, [(SQUARE, 20)], moves, bed, [0] * 6)

    def test_fast_moves_go_somewhere(self):
        bed = flat(3, 3, 500)
        moves = [("hold", 0), ("fast", "x", 2), ("fast", "y", 1), ("fast", "x", 1), ("fast", "z", 600), ("slow", "z", 450)]
        self.assert_carved(bed, [(DOT, 50)], moves, cut(bed, [(1, 1)], 450), [0, 0, 0, 0, 0, 50])

    def test_each_move_by_itself_tells_what_it_took(self):
        bed = [[900, 850, 1000], [700, 860, 999]]
        foot = [(0, 0), (0, 1)]
        moves = [("hold", 0), ("slow", "z", 880), ("slow", "x", 2), ("slow", "z", 850), ("slow", "x", 0)]
        self.assert_carved(bed, [(foot, 1000)], moves, [[850, 850, 850], [700, 850, 850]], [0, 20, 120 + 119, 60, 30 + 10])


class FootTest(BedsTest):
    def test_not_alike_on_all_sides(self):
        bed = flat(7, 7, 500)
        moves = [("hold", 0), ("fast", "x", 3), ("fast", "y", 3), ("slow", "z", 450)]
        cells = [(4, 3), (3, 3), (3, 5), (2, 2)]
        self.assert_carved(bed, [(HOOK, 50)], moves, cut(bed, cells, 450), [0, 0, 0, 200])

    def test_along_x(self):
        bed = flat(7, 7, 500)
        moves = [("hold", 0), ("fast", "x", 3), ("fast", "y", 3), ("slow", "z", 450), ("slow", "x", 1)]
        cells = [(4, 3), (3, 3), (3, 5), (2, 2), (2, 3), (2, 5), (1, 2), (1, 3), (1, 5), (0, 2)]
        self.assert_carved(bed, [(HOOK, 50)], moves, cut(bed, cells, 450), [0, 0, 0, 200, 300])

    def test_along_y(self):
        bed = flat(7, 7, 500)
        moves = [("hold", 0), ("fast", "x", 3), ("fast", "y", 3), ("slow", "z", 450), ("slow", "y", 4)]
        cells = [(4, 3), (3, 3), (3, 5), (2, 2), (4, 4), (3, 4), (3, 6), (2, 3)]
        self.assert_carved(bed, [(HOOK, 50)], moves, cut(bed, cells, 450), [0, 0, 0, 200, 200])

    def test_feet_with_gaps(self):
        bed = flat(8, 2, 500)
        foot = [(-3, 0), (0, 0), (3, 0), (3, 1)]
        moves = [("hold", 0), ("fast", "x", 3), ("slow", "z", 400), ("slow", "x", 4)]
        left = [[400, 400, 500, 400, 400, 500, 400, 400], [500] * 6 + [400, 400]]
        self.assert_carved(bed, [(foot, 100)], moves, left, [0, 0, 400, 400])

    def test_cells_outside_the_bed(self):
        bed = flat(3, 3, 500)
        up = [("slow", "z", 450)]
        self.assert_carved(bed, [(HOOK, 50)], [("hold", 0)] + up, cut(bed, [(0, 0), (1, 0), (0, 2)], 450), [0, 150])
        self.assert_carved(bed, [(HOOK, 50)], [("hold", 0), ("fast", "x", 2), ("fast", "y", 2)] + up,
                           cut(bed, [(2, 2), (1, 1)], 450), [0, 0, 0, 100])
        self.assert_carved(bed, [(SQUARE, 50)], [("hold", 0), ("fast", "x", 2)] + up, flat(3, 3, 450), [0, 0, 450])
        self.assert_carved([[500]], [(SQUARE, 50)], [("hold", 0)] + up, [[450]], [0, 50])
        wide = [(0, 0), (3, 3), (-3, -3), (3, -3), (-3, 3), (3, 0), (0, -3)]
        self.assert_carved(bed, [(wide, 50)], [("hold", 0), ("fast", "x", 1), ("fast", "y", 1)] + up,
                           cut(bed, [(1, 1)], 450), [0, 0, 0, 50])

    def test_the_order_of_the_foot_is_no_matter(self):
        bed = [[500, 480, 470], [460, 500, 450], [490, 430, 500]]
        moves = [("hold", 0), ("slow", "z", 455), ("slow", "x", 2), ("slow", "y", 1)]
        for foot in (HOOK, HOOK[::-1], HOOK[2:] + HOOK[:2]):
            self.assertEqual(carved(bed, [(foot, 100)], moves), carved(bed, [(HOOK, 100)], moves))
            self.assert_carved(bed, [(foot, 100)], moves, *carved(bed, [(HOOK, 100)], moves)[:2])

    def test_a_cell_that_is_met_often_is_taken_once(self):
        bed = flat(5, 5, 500)
        moves = [("hold", 0), ("fast", "x", 2), ("slow", "z", 490), ("slow", "y", 4), ("slow", "x", 1), ("slow", "y", 0)]
        self.assert_carved(bed, [(SQUARE, 10)], moves, flat(5, 5, 490), [0, 0, 150, 100, 0, 0])


class BoundsTest(BedsTest):
    def test_the_greatest_bed(self):
        bed = flat(40, 40, 1000)
        moves = [("hold", 5), ("slow", "z", 0), ("slow", "x", 39), ("slow", "y", 39), ("slow", "x", 0), ("slow", "y", 0)]
        rim = [(x, y) for x in range(40) for y in range(40) if min(x, y) <= 2 or max(x, y) >= 37]
        shelf = [(DOT, 1)] * 5 + [(SQUARE, 1000)]
        self.assert_carved(bed, shelf, moves, cut(bed, rim, 0), [0, 9000, 111000, 111000, 111000, 102000])

    def test_somewhat_beyond(self):
        bed = [[1200] * 45 for y in range(43)]
        foot = [(dx, 0) for dx in range(-5, 6)] + [(0, 6)]
        moves = [("hold", 7), ("slow", "z", 900), ("slow", "y", 42)]
        cells = [(x, y) for x in range(6) for y in range(43)]
        self.assert_carved(bed, [(DOT, 1)] * 7 + [(foot, 2000)], moves, cut(bed, cells, 900), [0, 2100, 75300])

    def test_many_moves(self):
        moves = [("hold", 0), ("slow", "z", 9)] + [("slow", "x", 1), ("slow", "x", 0)] * 1499
        self.assert_carved([[10, 10]], [(DOT, 1)], moves, [[9, 9]], [0, 1, 1] + [0] * 2997)


class HandedInTest(unittest.TestCase):
    bed = [[500, 480, 470], [460, 500, 450]]
    shelf = [(HOOK, 100), (DOT, 3)]
    moves = [("hold", 0), ("slow", "z", 455), ("slow", "x", 2), ("fast", "z", 1000), ("hold", 1), ("slow", "y", 1)]

    def test_all_stays_as_it_was(self):
        for last in ([], [("slow", "x", 9)], [("slow", "z", 0)], [("hold", 9)], [("fast", "z", 0)]):
            handed = copy.deepcopy((self.bed, self.shelf, self.moves + last))
            before = exact(handed)
            carved(*handed)
            self.assertEqual(exact(handed), before)

    def test_told_again_the_same(self):
        first = carved(self.bed, self.shelf, self.moves)
        before = exact(first)
        for one in lists_in(first):
            one.append("changed")
        self.assertEqual(exact(carved(self.bed, self.shelf, self.moves)), before)
        for one in lists_in(carved(self.bed, self.shelf, self.moves)):
            one.clear()
        self.assertEqual(exact(carved(self.bed, self.shelf, self.moves)), before)

    def test_no_two_lists_are_one(self):
        for moves in ([], self.moves, [("slow", "x", 1)]):
            told = carved(self.bed, self.shelf, moves)
            found = lists_in(told) + lists_in(carved(self.bed, self.shelf, moves))
            self.assertTrue(all_apart(found + lists_in(self.bed) + lists_in(self.shelf) + [moves]))
            self.assertEqual(len(lists_in(told)), 4)

    def test_a_row_that_stands_twice_in_a_bed(self):
        row = [500, 500]
        told = carved([row, row, row], [(DOT, 10)], [("hold", 0), ("slow", "z", 490)])
        self.assertEqual(told, ([[490, 500], [500, 500], [500, 500]], [0, 10], None))
        self.assertTrue(all_apart([row] + lists_in(told)))
        self.assertEqual(row, [500, 500])

    def test_what_is_handed_in_is_changed_behind(self):
        bed, shelf, moves = copy.deepcopy((self.bed, self.shelf, self.moves))
        told = carved(bed, shelf, moves)
        before = exact(told)
        for one in lists_in(bed) + lists_in(shelf) + [moves]:
            one.clear()
        self.assertEqual(exact(told), before)


if __name__ == "__main__":
    unittest.main()
