"""Moves made fewer, and rows of moves told apart."""

from carvebed.beds import Cells, carved
from carvebed.carver import Carver, Fault
from carvebed.reach import cells_of

NO_STROKE = ((), 0, 0)


# Stuff that stays as it is: what a move asks of it is noted alone, as a stroke. That is a tuple (cells, most, lowest):
# none of the cells may be higher than most, and behind it none is higher than lowest.
class Notes:
    def __init__(self, bed):
        self.cells = Cells(bed)
        self.stroke = NO_STROKE

    def has_cell(self, x, y):
        return self.cells.has_cell(x, y)

    def under(self, foot, way):
        return self.cells.under(foot, way)

    def rises_above(self, under, height):
        self.stroke = (under, height, height)
        return False

    def cut_down(self, under, height):
        self.stroke = (under, self.stroke[1], height)
        return 0


def stroke_of(carver, move):
    notes = carver.stuff
    notes.stroke = NO_STROKE
    carver.do(move)
    return notes.stroke


def stand_of(carver):
    return (carver.cutter, dict(carver.stands))


def carver_at(stand, notes, shelf):
    carver = Carver(notes, shelf)
    carver.cutter = stand[0]
    carver.stands = dict(stand[1])
    return carver


def heights_of(bed):
    return dict([((x, y), bed[y][x]) for x, y in cells_of(bed)])


# The moves are gone through once to the last, and then each is tried, from the last to the first: whether it can be
# left out. A step is a tuple (move, stand, stroke), stand telling how the carver stands ahead of it.
#
# A move that is left out changes the strokes behind it up to where the carver stands as it did with it. What comes
# then asks of each cell but that it be no higher than some bound, and no lower than it is to be left.
class Sieve:
    def __init__(self, bed, shelf, left):
        self.notes = Notes(bed)
        self.shelf = shelf
        self.left = heights_of(left)
        # As high as the cells are ahead of the step that is tried.
        self.heights = heights_of(bed)
        # Steps that are not tried yet, each with the heights of the cells that it cuts.
        self.untried = []
        # Steps that are not left out, the one nearest to the step that is tried last.
        self.kept = []
        # For each cell tuples (place in kept, bound ahead of that step), of the steps that are over it.
        self.bounds = dict([(cell, [(-1, height)]) for cell, height in self.left.items()])

    def go_through(self, moves):
        carver = Carver(self.notes, self.shelf)
        for move in moves:
            stand = stand_of(carver)
            stroke = stroke_of(carver, move)
            self.untried.append(((move, stand, stroke), self.cut(stroke)))

    def cut(self, stroke):
        met = [(cell, self.heights[cell]) for cell in stroke[0] if self.heights[cell] > stroke[2]]
        for cell, height in met:
            self.heights[cell] = stroke[2]
        return met

    def sift(self):
        while self.untried:
            tried = self.untried.pop()
            self.heights.update(tried[1])
            self.try_without(tried[0])

    def try_without(self, step):
        others = self.others_without(step)
        if others is None:
            self.keep(step)
        else:
            for turn in range(len(others)):
                self.give_back()
            for other in others[::-1]:
                self.keep(other)

    def keep(self, step):
        stroke = step[2]
        for cell in stroke[0]:
            bounds = self.bounds[cell]
            behind = bounds[-1][1]
            # A cell that is cut down to within the bound may be as high as the stroke allows.
            bounds.append((len(self.kept), stroke[1] if stroke[2] <= behind else behind))
        self.kept.append(step)

    def give_back(self):
        step = self.kept.pop()
        for cell in step[2][0]:
            self.bounds[cell].pop()

    # The steps behind this one that are otherwise without it, the nearest first; None where it can't be left out.
    def others_without(self, step):
        carver = carver_at(step[1], self.notes, self.shelf)
        others = []
        heights = {}
        for kept in reversed(self.kept):
            stand = stand_of(carver)
            if stand == kept[1]:
                break
            try:
                stroke = stroke_of(carver, kept[0])
            except Fault:
                return None
            if not self.fits(stroke, heights):
                return None
            others.append((kept[0], stand, stroke))
        return others if self.comes_to_the_same(step, len(others), heights) else None

    # Cells that were met have their heights in the dict, and get those that they have behind the stroke.
    def fits(self, stroke, heights):
        for cell in stroke[0]:
            height = heights.get(cell, self.heights[cell])
            if height > stroke[1] or stroke[2] < self.left[cell]:
                return False
            heights[cell] = min(height, stroke[2])
        return True

    def comes_to_the_same(self, step, many, heights):
        base = len(self.kept) - many
        for other in [step] + self.kept[base:]:
            for cell in other[2][0]:
                heights.setdefault(cell, self.heights[cell])
        return all([height <= self.bound_below(cell, base) for cell, height in heights.items()])

    def bound_below(self, cell, base):
        bounds = self.bounds[cell]
        at = len(bounds) - 1
        while bounds[at][0] >= base:
            at -= 1
        return bounds[at][1]


def sifted(bed, shelf, left, moves):
    sieve = Sieve(bed, shelf, left)
    sieve.go_through(moves)
    sieve.sift()
    return [step[0] for step in sieve.kept[::-1]]


# What can't be left out may be so when others ahead of it are gone: so till nothing more goes.
def fewer(bed, shelf, moves):
    done = carved(bed, shelf, moves)
    before = moves[:len(done[1])]
    told = sifted(bed, shelf, done[0], before)
    while len(told) < len(before):
        before = told
        told = sifted(bed, shelf, done[0], before)
    return told


def told_apart(bed, shelf, moves, others):
    one = carved(bed, shelf, moves)[0]
    other = carved(bed, shelf, others)[0]
    for x, y in cells_of(bed):
        if one[y][x] != other[y][x]:
            return (x, y, one[y][x], other[y][x])
    return None
