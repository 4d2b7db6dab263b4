"""Points 20 and 21: moves made fewer, and rows of moves told apart; point 2: what is handed in and told."""

import copy
import unittest

from carvebed.beds import carved
from carvebed.fewer import fewer, told_apart
from tests.helper import DOT, HOOK, Draws, all_apart, cells_of, drawn_shelf, exact, flat, lists_in

PAIR = [(0, 0), (1, 0)]
UP = ("fast", "z", 1000)


def is_some_of(told, moves):
    """Whether what is told are some of the moves, in the same order."""
    rest = iter(moves)
    return all(any(move == other for other in rest) for move in told)


class FewerTest(unittest.TestCase):
    def assert_fewer(self, bed, shelf, moves, all_of_them=True):
        left, taken, fault = carved(bed, shelf, moves)
        self.assertIsNone(fault)
        before = exact((bed, shelf, moves))
        told = fewer(bed, shelf, moves)
        self.assertEqual(exact((bed, shelf, moves)), before)
        self.assertIsInstance(told, list)
        self.assertTrue(is_some_of(told, moves))
        self.assertEqual(carved(bed, shelf, told)[::2], (left, None))
        for at in range(len(told)) if all_of_them else range(0, len(told), 17):
            others = carved(bed, shelf, told[:at] + told[at + 1:])
            self.assertTrue(others[2] is not None or others[0] != left, (at, told))
        self.assertEqual(exact(fewer(bed, shelf, moves)), exact(told))
        return told

    def assert_told(self, told, bed, shelf, moves):
        self.assertEqual(exact(self.assert_fewer(bed, shelf, moves)), exact(told))


class TakenTest(FewerTest):
    bed = flat(4, 3, 500)
    shelf = [(DOT, 100), (PAIR, 50)]

    def test_no_moves(self):
        self.assert_told([], self.bed, self.shelf, [])

    def test_moves_that_take_nothing(self):
        for moves in ([("hold", 0)], [("hold", 0), ("fast", "x", 2)], [("hold", 1), ("slow", "z", 500), ("slow", "x", 3)],
                      [("hold", 0), ("fast", "z", 700), UP, ("hold", 1), ("fast", "y", 2), ("fast", "y", 0)],
                      [("hold", 0), ("hold", 1), ("hold", 0)],
                      [("hold", 0), ("slow", "z", 600), ("slow", "x", 3), ("fast", "z", 500), UP, ("hold", 1)] * 5):
            self.assert_told([], self.bed, self.shelf, moves)

    def test_none_can_be_left_out(self):
        for moves in ([("hold", 0), ("slow", "z", 450)], [("hold", 0), ("slow", "z", 450), ("slow", "x", 2)],
                      [("hold", 0), ("slow", "z", 400), ("slow", "z", 300)],
                      [("hold", 0), ("slow", "z", 450), UP, ("hold", 1), ("fast", "y", 2), ("slow", "z", 460)],
                      [("hold", 1), ("fast", "x", 1), ("slow", "z", 450), ("slow", "y", 1), ("slow", "x", 0)]):
            self.assert_told(moves, self.bed, self.shelf, moves)

    def test_moves_done_twice_over(self):
        once = [("hold", 0), ("fast", "x", 1), ("slow", "z", 450), ("slow", "x", 3), ("slow", "y", 1)]
        back = [UP, ("fast", "x", 0), ("fast", "y", 0)]
        told = self.assert_fewer(self.bed, self.shelf, once + back + once)
        self.assertEqual(len(told), len(once))
        doubled = [move for move in once for turn in range(2)]
        self.assert_told(once, self.bed, self.shelf, doubled)
        self.assert_told(once, self.bed, self.shelf, [move for move in once for turn in range(5)])
        self.assert_told(once, self.bed, self.shelf, once + back)

    def test_holds_that_are_of_no_use(self):
        cut = [("slow", "z", 480), ("slow", "x", 2)]
        self.assert_told([("hold", 0)] + cut, self.bed, self.shelf, [("hold", 1), ("hold", 0), ("hold", 0)] + cut)
        # Either leaves the same here, so whichever is told, one of them is enough.
        told = self.assert_fewer([[500, 500, 500, 480]], self.shelf, [("hold", 0), ("slow", "z", 480), ("slow", "x", 3),
                                                                       UP, ("hold", 1), ("slow", "x", 0)])
        self.assertEqual(len([move for move in told if move[0] == "hold"]), 1)

    def test_what_goes_only_when_something_ahead_is_gone(self):
        # The way up can't be left out ahead of a hold as long as the way down is there.
        moves = [("hold", 0), ("fast", "z", 600), UP, ("hold", 1), ("slow", "z", 450)]
        self.assert_told([("hold", 1), ("slow", "z", 450)], self.bed, self.shelf, moves)
        moves = [("hold", 0), ("slow", "z", 450), UP, ("fast", "z", 700), ("fast", "z", 650), UP, ("hold", 1),
                 ("fast", "y", 2), ("slow", "z", 470)]
        told = [("hold", 0), ("slow", "z", 450), UP, ("hold", 1), ("fast", "y", 2), ("slow", "z", 470)]
        self.assert_told(told, self.bed, self.shelf, moves)

    def test_what_would_end_by_each_fault(self):
        # Without the first cut the second is too great a bite; without the way up the stuff is in the way.
        bed = [[500, 500, 600]]
        moves = [("hold", 0), ("slow", "z", 410), ("slow", "z", 320), UP, ("fast", "x", 2), ("slow", "z", 550)]
        self.assert_told(moves, bed, self.shelf, moves)
        # Without the first hold the cutter is wider, without the way up the second hold is too low.
        bed = [[500, 500, 600, 600]]
        moves = [("hold", 0), ("slow", "z", 450), UP, ("hold", 1), ("slow", "x", 2), ("slow", "z", 555)]
        self.assert_told(moves, bed, self.shelf, moves)

    def test_cuts_within_later_cuts(self):
        # With a bite that is great enough the last cut alone is left.
        moves = [("hold", 0), ("slow", "z", 480), ("slow", "x", 3), ("slow", "z", 460), ("slow", "x", 0), ("slow", "z", 400),
                 ("slow", "x", 3)]
        told = [("hold", 0), ("slow", "z", 400), ("slow", "x", 3)]
        self.assert_told(told, self.bed, [(DOT, 1000)], moves)
        # With a smaller one some of the cuts ahead of it are needed.
        self.assertGreater(len(self.assert_fewer(self.bed, [(DOT, 60)], moves)), 3)

    def test_another_way_to_the_same_place(self):
        moves = [("hold", 0), ("fast", "x", 3), ("fast", "y", 1), ("fast", "x", 0), ("fast", "x", 2), ("slow", "z", 450),
                 ("slow", "z", 700), ("slow", "y", 0), ("slow", "y", 2)]
        self.assert_told([("hold", 0), ("fast", "y", 1), ("fast", "x", 2), ("slow", "z", 450)], self.bed, self.shelf, moves)

    def test_stuff_that_rises_over_the_top(self):
        # Somewhat beyond the bound: the moves along x at the top cut too.
        self.assert_told([("hold", 0), ("slow", "x", 1)], [[1030, 1030]], [(DOT, 30)],
                         [("hold", 0), ("slow", "z", 1000), ("slow", "x", 1), ("slow", "x", 0)])


class DrawnTest(FewerTest):
    """Moves drawn one by one; those that are a fault are left out."""

    def drawn(self, seed, sizes, many):
        draws = Draws(seed)
        width, depth = draws.among(sizes)
        heights = draws.among(((100,), (90, 100), (60, 80, 100), tuple(range(50, 101))))
        bed = [[draws.among(heights) for x in range(width)] for y in range(depth)]
        shelf = drawn_shelf(draws)[:3]
        moves = [("hold", 0)]
        for turn in range(many):
            more = self.more(draws, width, depth, len(shelf))
            if carved(bed, shelf, moves + more)[2] is None:
                moves.extend(more)
        return bed, shelf, moves

    def more(self, draws, width, depth, cutters):
        kind = draws.among(("fast", "slow", "slow"))
        what = draws.below(8)
        if what == 0:
            return [UP, ("hold", draws.below(cutters))]
        if what < 3:
            return [(kind, "z", draws.among((1000, 100, 95, 90, 80, 79, 70, 50)))]
        if what < 6:
            return [(kind, "x", draws.below(width))]
        return [(kind, "y", draws.below(depth))]

    def assert_drawn(self, seeds, sizes, many):
        shorter = []
        for seed in seeds:
            bed, shelf, moves = self.drawn(seed, sizes, many)
            shorter.append((len(self.assert_fewer(bed, shelf, moves)), len(moves)))
        return shorter

    def test_small_beds(self):
        shorter = self.assert_drawn(range(400), [(1, 1), (2, 1), (1, 3), (2, 2), (3, 3), (4, 2), (5, 5)], 25)
        self.assertGreater(len([1 for told, moves in shorter if told < moves]), 300)
        self.assertGreater(len([1 for told, moves in shorter if told >= 3]), 150)
        self.assertGreater(len([1 for told, moves in shorter if told >= 8]), 20)

    def test_greater_beds(self):
        shorter = self.assert_drawn(range(1000, 1040), [(12, 9), (7, 13), (20, 5)], 60)
        self.assertGreater(len([1 for told, moves in shorter if told >= 10]), 10)

    def test_three_thousand_moves(self):
        draws = Draws(7)
        bed = flat(40, 40, 1000)
        shelf = [([(dx, dy) for dx in range(-2, 3) for dy in range(-2, 3)], 300)]
        moves = [("hold", 0)]
        for z in (900, 750, 600):
            moves.append(("slow", "z", z))
            for turn in range(499):
                moves.extend([("slow", "x", draws.below(40)), ("slow", "y", draws.below(40))])
        moves.extend([UP, ("hold", 0)])
        self.assertEqual(len(moves), 3000)
        told = self.assert_fewer(bed, shelf, moves, False)
        self.assertLess(len(told), 600)


class ToldApartTest(unittest.TestCase):
    bed = [[500, 480, 460], [440, 420, 400]]
    shelf = [(DOT, 1000), (PAIR, 1000)]

    def moves_to(self, *cells):
        moves = [("hold", 0)]
        for x, y, z in cells:
            moves.extend([UP, ("fast", "x", x), ("fast", "y", y), ("slow", "z", z)])
        return moves

    def assert_apart(self, told, moves, others):
        self.assertEqual(exact(told_apart(self.bed, self.shelf, moves, others)), exact(told))
        exchanged = None if told is None else (told[0], told[1], told[3], told[2])
        self.assertEqual(exact(told_apart(self.bed, self.shelf, others, moves)), exact(exchanged))

    def test_the_same_bed(self):
        moves = self.moves_to((1, 0, 300), (2, 1, 200))
        for others in (moves, moves + [("slow", "z", 900)], self.moves_to((2, 1, 200), (1, 0, 300)),
                       self.moves_to((1, 0, 400), (2, 1, 200), (1, 0, 300))):
            self.assert_apart(None, moves, others)
        self.assert_apart(None, [], [])
        self.assert_apart(None, [], [("hold", 0), ("slow", "z", 500), ("fast", "y", 1)])

    def test_each_cell(self):
        for x, y in cells_of(self.bed):
            self.assert_apart((x, y, 7, self.bed[y][x]), self.moves_to((x, y, 7)), [])
            self.assert_apart((x, y, 7, 6), self.moves_to((x, y, 7)), self.moves_to((x, y, 6)))

    def test_the_first_by_y_then_by_x(self):
        self.assert_apart((2, 0, 9, 460), self.moves_to((0, 1, 9), (2, 0, 9)), [])
        self.assert_apart((1, 0, 9, 480), self.moves_to((2, 0, 9), (1, 0, 9), (0, 1, 9)), [])
        self.assert_apart((0, 1, 440, 8), self.moves_to((2, 1, 9)), self.moves_to((0, 1, 8)))
        self.assert_apart((0, 0, 500, 8), self.moves_to((2, 1, 9)), self.moves_to((2, 1, 8), (0, 0, 8)))

    def test_both_otherwise_than_the_bed(self):
        self.assert_apart((1, 1, 30, 50), self.moves_to((0, 0, 10), (1, 1, 30)), self.moves_to((0, 0, 10), (1, 1, 50)))

    def test_a_fault_ends_each_by_itself(self):
        fault = [("fast", "x", 9)]
        cut = self.moves_to((0, 0, 100))
        more = self.moves_to((1, 0, 100))[1:]
        self.assert_apart(None, cut + fault + more, cut)
        self.assert_apart(None, cut + fault + more, cut + [("hold", 0)] + more)
        self.assert_apart((1, 0, 480, 100), cut + fault + more, cut + more)
        self.assert_apart((0, 0, 500, 100), fault + cut, cut + fault)
        self.assert_apart(None, fault + cut, [("hold", 9)] + more)

    def test_a_fault_of_one_is_none_of_the_other(self):
        crash = [("hold", 0), ("fast", "z", 100)]
        self.assert_apart((0, 0, 500, 100), crash, self.moves_to((0, 0, 100)))
        self.assert_apart(None, crash, [])


class HandedInTest(unittest.TestCase):
    bed = [[500, 480, 470], [460, 500, 450]]
    shelf = [(HOOK, 100), (DOT, 3)]
    moves = [("hold", 0), ("slow", "z", 455), ("slow", "x", 2), UP, ("hold", 1), ("slow", "y", 1)]

    def test_all_stays_as_it_was(self):
        handed = copy.deepcopy((self.bed, self.shelf, self.moves, self.moves[:2]))
        before = exact(handed)
        fewer(*handed[:3])
        told_apart(*handed)
        self.assertEqual(exact(handed), before)

    def test_told_again_the_same_and_no_two_lists_are_one(self):
        for moves in ([], self.moves, self.moves[:3]):
            told = fewer(self.bed, self.shelf, moves)
            before = exact(told)
            self.assertTrue(all_apart([told, moves, fewer(self.bed, self.shelf, moves)]))
            told.append("changed")
            self.assertEqual(exact(fewer(self.bed, self.shelf, moves)), before)
            self.assertTrue(all_apart(lists_in(told) + lists_in(self.bed) + lists_in(self.shelf) + [moves]))


if __name__ == "__main__":
    unittest.main()
