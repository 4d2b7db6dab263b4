"""Point 19: moves that leave just what can be had, and the cutters that are needed; point 2: what is handed in."""

import copy
import unittest

from carvebed.beds import carved
from carvebed.plans import moves_for, needed
from carvebed.reach import had
from carvebed.spans import carved_spans, spans_of
from tests.helper import (DOT, HOOK, Draws, all_apart, drawn_shelf, drawn_wishes, exact, flat, is_whole, lists_in)

PAIR = [(0, 0), (1, 0)]
ROW = [(0, 0), (1, 0), (-1, 0)]
COLUMN = [(0, 0), (0, 1), (0, -1)]
SQUARE = [(dx, dy) for dx in (-1, 0, 1) for dy in (-1, 0, 1)]


def is_move(move):
    if not isinstance(move, tuple):
        return False
    if move[0] == "hold":
        return len(move) == 2 and is_whole(move[1])
    return len(move) == 3 and move[0] in ("fast", "slow") and move[1] in ("x", "y", "z") and is_whole(move[2])


class PlansTest(unittest.TestCase):
    def assert_moves(self, bed, wished, shelf):
        """That the moves leave just what can be had, both ways, with the needed cutters alone; answers them."""
        told = had(bed, wished, shelf)
        moves = moves_for(bed, wished, shelf)
        self.assertIsInstance(moves, list)
        self.assertTrue(all(is_move(move) for move in moves), moves)
        left, taken, fault = carved(bed, shelf, moves)
        self.assertEqual((left, fault), (told, None), (bed, wished, shelf))
        self.assertEqual(carved_spans(spans_of(bed), len(bed[0]), shelf, moves), (spans_of(told), taken, None))
        numbers = self.assert_needed(bed, wished, shelf)
        self.assertEqual(sorted({move[1] for move in moves if move[0] == "hold"}), numbers)
        self.assertEqual(moves == [], told == bed)
        self.assertEqual(exact(moves_for(bed, wished, shelf)), exact(moves))
        return moves

    def assert_needed(self, bed, wished, shelf):
        told = had(bed, wished, shelf)
        numbers = needed(bed, wished, shelf)
        self.assertIsInstance(numbers, list)
        self.assertTrue(all(is_whole(number) and 0 <= number < len(shelf) for number in numbers), numbers)
        self.assertEqual(numbers, sorted(set(numbers)))
        self.assertEqual(had(bed, wished, [shelf[number] for number in numbers]), told)
        for spared in numbers:
            rest = [shelf[number] for number in numbers if number != spared]
            self.assertNotEqual(had(bed, wished, rest) if rest else bed, told, spared)
        self.assertEqual(numbers == [], told == bed)
        self.assertEqual(exact(needed(bed, wished, shelf)), exact(numbers))
        return numbers


class MovesTest(PlansTest):
    def test_one_cutter_flat(self):
        for foot in (DOT, PAIR, HOOK, SQUARE):
            for bite in (1, 7, 100, 1000):
                for height in (0, 1, 95, 99):
                    self.assert_moves(flat(4, 3, 100), flat(4, 3, height), [(foot, bite)])

    def test_from_the_top_to_the_ground(self):
        for bite in (1, 3, 1000):
            self.assert_moves(flat(3, 2, 1000), flat(3, 2, 0), [(PAIR, bite)])
            self.assert_moves(flat(3, 2, 1000), [[0, 1000, 0], [999, 1, 500]], [(DOT, bite)])

    def test_bites_of_one_beneath_a_height_of_hundreds(self):
        bed = [[700, 650, 700, 300], [0, 700, 999, 700], [512, 700, 700, 1]]
        wished = [[100, 650, 30, 300], [0, 333, 0, 20], [511, 400, 400, 0]]
        for foot in (DOT, PAIR, HOOK, COLUMN):
            self.assert_moves(bed, wished, [(foot, 1)])
        self.assert_moves(bed, wished, [(DOT, 1), (PAIR, 200), (SQUARE, 3)])

    def test_cutters_over_cells_higher_than_they_may_cut(self):
        # Beside the low cells stand high ones that may not be touched, or only so far.
        bed = [[50, 900, 50, 900, 50], [900, 900, 60, 50, 50], [50, 50, 50, 900, 900]]
        wished = [[10, 900, 10, 900, 10], [900, 500, 10, 10, 10], [10, 10, 10, 900, 20]]
        for shelf in ([(DOT, 5)], [(PAIR, 5)], [(ROW, 40), (DOT, 1)], [(COLUMN, 40), (HOOK, 1)], [(SQUARE, 7)]):
            self.assert_moves(bed, wished, shelf)

    def test_high_cells_on_the_way_to_low_ones(self):
        bed = [[1000, 1000, 10, 1000, 1000, 10]]
        self.assert_moves(bed, [[1000, 1000, 3, 1000, 1000, 5]], [(DOT, 1)])
        self.assert_moves(bed, [[1000, 1000, 3, 1000, 2, 5]], [(DOT, 100), (PAIR, 1)])

    def test_down_within_what_is_cut_already(self):
        self.assert_moves(flat(7, 1, 90), [[60, 40, 40, 20, 40, 50, 60]], [(DOT, 7)])
        self.assert_moves(flat(7, 7, 90), [[abs(x - 3) * 9 + abs(y - 3) * 7 for x in range(7)] for y in range(7)],
                          [(DOT, 4), (ROW, 9), (SQUARE, 30)])

    def test_one_by_one(self):
        for foot in (DOT, HOOK, SQUARE):
            for bite in (1, 4, 1000):
                for height, wish in ((1000, 0), (1000, 999), (1000, 1000), (1, 0), (0, 0), (9, 4)):
                    self.assert_moves([[height]], [[wish]], [(foot, bite)])

    def test_one_row_and_one_place_a_row(self):
        for shelf in ([(DOT, 3)], [(PAIR, 2)], [(HOOK, 5), (ROW, 1)], [(COLUMN, 9), (ROW, 7), (DOT, 1)]):
            heights = [90, 80, 90, 10, 90, 90, 0]
            wishes = [20, 80, 0, 10, 5, 5, 0]
            self.assert_moves([heights], [wishes], shelf)
            self.assert_moves([[height] for height in heights], [[wish] for wish in wishes], shelf)

    def test_nothing_can_be_had_lower(self):
        bed = [[9, 5, 9], [7, 7, 7]]
        for wished in (bed, [[9, 5, 9], [7, 3, 7]]):
            for shelf in ([(SQUARE, 1)], [(SQUARE, 1000)] * 6):
                self.assertEqual(exact(moves_for(bed, wished, shelf)), exact([]))
                self.assertEqual(exact(needed(bed, wished, shelf)), exact([]))
        self.assertEqual((moves_for(flat(2, 2, 0), flat(2, 2, 0), [(DOT, 1)]), needed([[0]], [[0]], [(DOT, 1)])), ([], []))

    def test_the_greatest_bed(self):
        wished = [[(x * 7 + y * 13) % 200 if (x // 5 + y // 8) % 2 else 100 for x in range(40)] for y in range(40)]
        square = [(dx, dy) for dx in range(-2, 3) for dy in range(-2, 3)]
        self.assert_moves(flat(40, 40, 1000), wished, [(square, 200), (SQUARE, 90), (ROW, 1000), (HOOK, 50)])

    def test_somewhat_beyond(self):
        wished = flat(43, 2, 3)
        wished[0][42] = 4
        long = [(dx, 0) for dx in range(-14, 15)]
        self.assert_moves(flat(43, 2, 30), wished, [(long, 2000), (SQUARE, 1), (PAIR, 1)] + [(DOT, 5)] * 5)

    def test_drawn(self):
        moved = 0
        for seed in range(250):
            draws = Draws(seed)
            bed, wished = drawn_wishes(draws, draws.between(1, 8), draws.between(1, 8))
            moved += len(self.assert_moves(bed, wished, drawn_shelf(draws))) > 0
        self.assertGreater(moved, 150)


class NeededTest(PlansTest):
    def test_one_that_has_all(self):
        bed = flat(5, 5, 9)
        wished = flat(5, 5, 5)
        wished[2][2] = 1
        shelf = [(SQUARE, 1), (ROW, 1), (DOT, 1), (COLUMN, 1)]
        self.assertEqual(needed(bed, wished, shelf), [2])
        self.assertEqual(needed(bed, wished, shelf[2:]), [0])

    def test_each_has_something_of_its_own(self):
        bed = flat(7, 7, 9)
        # A slot along x, and one along y, that meet nowhere and end ahead of the edges.
        wished = flat(7, 7, 9)
        for at in range(1, 4):
            wished[1][at] = 2
            wished[at + 2][5] = 2
        self.assertEqual(needed(bed, wished, [(ROW, 1), (COLUMN, 1)]), [0, 1])
        self.assertEqual(needed(bed, wished, [(SQUARE, 1), (COLUMN, 1), (SQUARE, 1), (ROW, 1)]), [1, 3])
        self.assertEqual(needed(bed, wished, [(SQUARE, 1), (COLUMN, 1)]), [1])
        self.assertEqual(needed(bed, wished, [(SQUARE, 1)]), [])

    def test_like_ones(self):
        for many in range(2, 7):
            self.assertEqual(len(self.assert_needed(flat(3, 3, 9), flat(3, 3, 4), [(HOOK, 1)] * many)), 1)

    def test_slots_that_more_than_one_can_have(self):
        wished = flat(9, 3, 9)
        for x in (1, 2, 3, 5, 6, 7):
            wished[1][x] = 3
        halves = [([(0, 0), (1, 0)], 1), ([(0, 0), (-1, 0)], 2), (ROW, 3)]
        self.assert_needed(flat(9, 3, 9), wished, halves)
        self.assert_moves(flat(9, 3, 9), wished, halves)

    def test_drawn(self):
        many = []
        for seed in range(1000, 1300):
            draws = Draws(seed)
            bed, wished = drawn_wishes(draws, draws.between(2, 9), draws.between(2, 9))
            small = [(foot[:3] + [(0, 0)] * ((0, 0) not in foot[:3]), bite) for foot, bite in drawn_shelf(draws)]
            many.append(len(self.assert_needed(bed, wished, small)))
        for number in (0, 1, 2, 3):
            self.assertGreater(many.count(number), 10, number)


class HandedInTest(unittest.TestCase):
    bed = [[90, 90, 80], [70, 90, 90]]
    wished = [[10, 50, 60], [70, 20, 30]]
    shelf = [(HOOK, 5), (PAIR, 1)]

    def test_all_stays_as_it_was(self):
        handed = copy.deepcopy((self.bed, self.wished, self.shelf))
        before = exact(handed)
        moves_for(*handed)
        needed(*handed)
        self.assertEqual(exact(handed), before)

    def test_told_again_the_same(self):
        for function in (moves_for, needed):
            before = exact(function(self.bed, self.wished, self.shelf))
            function(self.bed, self.wished, self.shelf).append("changed")
            function(self.bed, self.wished, self.shelf).clear()
            self.assertEqual(exact(function(self.bed, self.wished, self.shelf)), before)
            nothing = function(self.bed, self.bed, self.shelf)
            nothing.append("changed")
            self.assertEqual(function(self.bed, self.bed, self.shelf), [])

    def test_no_two_lists_are_one(self):
        found = []
        for function in (moves_for, needed):
            for wished in (self.bed, self.wished):
                found.extend(lists_in(function(self.bed, wished, self.shelf)))
                found.extend(lists_in(function(self.bed, wished, self.shelf)))
        self.assertTrue(all_apart(found + lists_in(self.bed) + lists_in(self.wished) + lists_in(self.shelf)))


if __name__ == "__main__":
    unittest.main()
