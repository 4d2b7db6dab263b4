"""Point 3, of beds: cell by cell or by spans, the same stuff, the same taken off at each move, the same fault.

Both are held against a third way of doing the moves, written here straight from point 14.
"""

import unittest

from carvebed.beds import carved
from carvebed.spans import bed_of, carved_spans, spans_of
from tests.helper import Draws, drawn_shelf, exact


def way_between(start, end):
    return range(start, end + 1) if start <= end else range(end, start + 1)


def by_the_words(bed, shelf, moves):
    bed = [list(row) for row in bed]
    at = {"x": 0, "y": 0, "z": 1000}
    cutter = None
    taken = []
    for move in moves:
        if move[0] == "hold":
            if move[1] not in range(len(shelf)):
                return bed, taken, ("shelf",)
            if at["z"] != 1000:
                return bed, taken, ("low",)
            cutter = shelf[move[1]]
            taken.append(0)
            continue
        kind, axis, to = move
        if cutter is None:
            return bed, taken, ("bare",)
        if to not in {"x": range(len(bed[0])), "y": range(len(bed)), "z": range(1001)}[axis]:
            return bed, taken, ("out",)
        places = [(at["x"], at["y"])]
        lowest = at["z"]
        if axis == "x":
            places = [(x, at["y"]) for x in way_between(at["x"], to)]
        elif axis == "y":
            places = [(at["x"], y) for y in way_between(at["y"], to)]
        else:
            lowest = min(to, at["z"])
        cells = {(x + dx, y + dy) for x, y in places for dx, dy in cutter[0]}
        cells = [(x, y) for x, y in sorted(cells) if y in range(len(bed)) and x in range(len(bed[0]))]
        if kind == "fast" and max(bed[y][x] for x, y in cells) > lowest:
            return bed, taken, ("crash",)
        if kind == "slow" and max(bed[y][x] for x, y in cells) > lowest + cutter[1]:
            return bed, taken, ("bite",)
        before = sum(map(sum, bed))
        for x, y in cells:
            if kind == "slow":
                bed[y][x] = min(bed[y][x], lowest)
        taken.append(before - sum(map(sum, bed)))
        at[axis] = to
    return bed, taken, None


class Drawn:
    """A bed, a shelf and moves. The steadier, the more moves are done ahead of a fault."""

    def __init__(self, seed, width, depth):
        self.draws = Draws(seed)
        self.width = width
        self.depth = depth
        self.steady = self.draws.among((5, 20, 100))
        heights = self.draws.among(((100,), (100, 101), (90, 100, 110, 120), tuple(range(0, 300, 7))))
        self.bed = [[self.draws.among(heights) for x in range(width)] for y in range(depth)]
        self.highest = max(heights)
        self.shelf = drawn_shelf(self.draws)
        self.moves = self.some_moves()

    def is_strange(self):
        return self.draws.below(self.steady) == 0

    def some_moves(self):
        moves = [] if self.is_strange() else [("hold", 0)]
        bite = self.shelf[0][1]
        for turn in range(self.draws.between(5, 40)):
            what = self.draws.below(8)
            if self.is_strange():
                moves.append(self.strange())
            elif what == 0:
                number = self.draws.below(len(self.shelf))
                bite = self.shelf[number][1]
                moves.extend([("fast", "z", 1000), ("hold", number), self.along("fast")])
            elif what == 1:
                moves.extend([("fast", "z", self.highest), self.along("fast"), self.along("fast")])
            elif what < 4:
                # Now and then one more than the bite.
                moves.append(("slow", "z", max(self.highest - self.draws.below(min(bite, 20) + 2), 0)))
            else:
                moves.append(self.along("fast" if self.is_strange() else "slow"))
        return moves

    def along(self, kind):
        axis = self.draws.among(("x", "y"))
        return (kind, axis, self.draws.below(self.width if axis == "x" else self.depth))

    def strange(self):
        number = self.draws.among((-1, 0, 1, 3, 6, 39, 40, 99, 1000, 1001, 10 ** 30 - 1, 1 - 10 ** 30))
        if self.draws.below(3) == 0:
            return ("hold", self.draws.among((0, number)))
        return (self.draws.among(("fast", "slow")), self.draws.among(("x", "y", "z")), number)


class AlikeTest(unittest.TestCase):
    def assert_alike(self, seed, width, depth):
        """The same in each way; answers the word of the fault, how many moves were done, and what was taken off."""
        drawn = Drawn(seed, width, depth)
        left, taken, fault = carved(drawn.bed, drawn.shelf, drawn.moves)
        self.assertEqual(exact((left, taken, fault)), exact(by_the_words(drawn.bed, drawn.shelf, drawn.moves)), seed)
        spans = carved_spans(spans_of(drawn.bed), width, drawn.shelf, drawn.moves)
        self.assertEqual(exact(spans), exact((spans_of(left), taken, fault)), seed)
        self.assertEqual(exact(bed_of(spans[0], width)), exact(left), seed)
        return (fault[0] if fault else "none", len(taken), sum(taken))

    def assert_all_alike(self, seeds, sizes):
        return [self.assert_alike(seed, *sizes[seed % len(sizes)]) for seed in seeds]

    def test_of_many_sizes(self):
        sizes = [(width, depth) for width in (2, 3, 5, 8, 12) for depth in (2, 3, 6, 9, 13)]
        told = self.assert_all_alike(range(1000), sizes)
        for fault in ("shelf", "low", "bare", "out", "crash", "bite", "none"):
            self.assertGreaterEqual([one[0] for one in told].count(fault), 15, fault)
        self.assertGreaterEqual(len([one for one in told if one[1] >= 20]), 200)
        self.assertGreaterEqual(len([one for one in told if one[2] > 0]), 500)

    def test_of_one_cell(self):
        told = self.assert_all_alike(range(1000, 1150), [(1, 1)])
        self.assertGreaterEqual(len({one[0] for one in told}), 6)

    def test_of_one_row(self):
        self.assert_all_alike(range(2000, 2150), [(2, 1), (5, 1), (13, 1), (40, 1)])

    def test_of_one_place_a_row(self):
        self.assert_all_alike(range(3000, 3150), [(1, 2), (1, 5), (1, 13), (1, 40)])

    def test_of_forty_by_forty(self):
        told = self.assert_all_alike(range(4000, 4080), [(40, 40)])
        self.assertGreaterEqual(len([one for one in told if one[1] >= 20 and one[2] > 0]), 15)

    def test_somewhat_beyond(self):
        self.assert_all_alike(range(5000, 5010), [(43, 2), (2, 44), (42, 42)])


if __name__ == "__main__":
    unittest.main()
