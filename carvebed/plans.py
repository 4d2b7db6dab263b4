"""Moves that leave just what can be had, and the cutters that are needed for it."""

from carvebed.beds import Cells
from carvebed.carver import TOP
from carvebed.reach import cells_of, cells_under, greatest, had


def lesser_row(row, other):
    return [min(height, other_height) for height, other_height in zip(row, other)]


def least_of(beds):
    told = beds[0]
    for bed in beds[1:]:
        told = [lesser_row(row, other) for row, other in zip(told, bed)]
    return told


# Each is tried once: with fewer cutters none is had lower, so that one that can't be spared never can be again.
# Those of small bites are tried first, as with them more moves are made.
def needed(bed, wished, shelf):
    by_each = [had(bed, wished, [cutter]) for cutter in shelf]
    by_all = least_of([bed] + by_each)
    kept = list(range(len(shelf)))
    for number in sorted(range(len(shelf)), key=lambda one: shelf[one][1]):
        rest = [one for one in kept if one != number]
        if least_of([bed] + [by_each[one] for one in rest]) == by_all:
            kept = rest
    return kept


# How far down a cutter may go at each place, and which cells it is to bring down where. Each cell is due at the last
# place that has it as low as it can be, as from there most of the cells behind it come down with it.
class Share:
    def __init__(self, cutter, wished, goal, rows):
        self.cutter = cutter
        self.lowests = {}
        self.due = {}
        placed = {}
        for place in cells_of(wished):
            under = cells_under(wished, cutter, place[0], place[1])
            lowest = greatest(wished, under)
            self.lowests[place] = lowest
            for x, y in under:
                if goal[y][x] == lowest and rows[y][x] > lowest:
                    placed[(x, y)] = place
        for cell, place in placed.items():
            self.due.setdefault(place, []).append(cell)

    def is_due(self, place, rows):
        return any([rows[y][x] > self.lowests[place] for x, y in self.due.get(place, [])])

    # The run from its first to its last place at which something is due; None where there is none.
    def trimmed(self, run, y, rows):
        xs = [x for x in range(run[0], run[1] + 1) if self.is_due((x, y), rows)]
        return (xs[0], xs[-1]) if xs else None

    def lowest_along(self, run, y):
        return max([self.lowests[(x, y)] for x in range(run[0], run[1] + 1)])

    # What is left of a run when the places are taken out at which the cutter goes down no further than this.
    def parts_below(self, run, y, lowest):
        walls = [x for x in range(run[0], run[1] + 1) if self.lowests[(x, y)] == lowest]
        return [(wall + 1, other - 1) for wall, other in zip([run[0] - 1] + walls, walls + [run[1] + 1])]


# Down to the lowest by bites. A bite below 1 would come to no end.
def levels(top, lowest, bite):
    step = max(bite, 1)
    return list(range(top - step, lowest, -step)) + [lowest]


class Plan:
    def __init__(self, bed):
        self.stuff = Cells(bed)
        self.stands = {"x": 0, "y": 0, "z": TOP}
        self.moves = []

    def go_to(self, kind, axis, to):
        if self.stands[axis] != to:
            self.stands[axis] = to
            self.moves.append((kind, axis, to))

    def take_cutter(self, number):
        self.go_to("fast", "z", TOP)
        self.moves.append(("hold", number))

    # By the top, where nothing is in the way of any cutter.
    def go_above(self, x, y, z):
        self.go_to("fast", "z", TOP)
        self.go_to("fast", "x", x)
        self.go_to("fast", "y", y)
        self.go_to("fast", "z", z)

    # To and fro on the run, one bite lower each time.
    def sweep(self, cutter, run, y, lowest):
        under = self.stuff.under(cutter[0], {"x": run, "y": (y, y)})
        top = greatest(self.stuff.rows, under)
        if top <= lowest:
            return
        self.go_above(run[0], y, top)
        for z in levels(top, lowest, cutter[1]):
            self.go_to("slow", "z", z)
            self.go_to("slow", "x", run[0] + run[1] - self.stands["x"])
        self.stuff.cut_down(under, lowest)

    # Each run is gone over as far down as it may be as a whole, and then what of it may go further.
    def do_row(self, share, y):
        runs = [(0, len(self.stuff.rows[y]) - 1)]
        while runs:
            run = share.trimmed(runs.pop(), y, self.stuff.rows)
            if run is not None:
                lowest = share.lowest_along(run, y)
                self.sweep(share.cutter, run, y, lowest)
                runs.extend(share.parts_below(run, y, lowest))


# Those of great bites go first, so that little is left to the others.
def moves_for(bed, wished, shelf):
    goal = had(bed, wished, shelf)
    plan = Plan(bed)
    for number in sorted(needed(bed, wished, shelf), key=lambda one: -shelf[one][1]):
        plan.take_cutter(number)
        share = Share(shelf[number], wished, goal, plan.stuff.rows)
        for y in range(len(bed)):
            plan.do_row(share, y)
    return plan.moves
