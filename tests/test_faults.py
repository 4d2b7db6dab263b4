"""Point 14: which move is a fault, and which fault is due first. Each is looked at cell by cell and by spans."""

import unittest

from carvebed.beds import carved
from carvebed.spans import carved_spans, spans_of
from tests.helper import DOT, HOOK, exact, flat

HUGE = 10 ** 30 - 1


def changed(bed, *cells):
    """The bed with other heights at (x, y, height)."""
    told = [list(row) for row in bed]
    for x, y, height in cells:
        told[y][x] = height
    return told


class FaultsTest(unittest.TestCase):
    def assert_carved(self, bed, shelf, moves, left, taken, fault):
        self.assertEqual(exact(carved(bed, shelf, moves)), exact((left, taken, fault)), moves)
        self.assertEqual(exact(carved_spans(spans_of(bed), len(bed[0]), shelf, moves)),
                         exact((spans_of(left), taken, fault)), moves)

    def assert_fault(self, fault, bed, shelf, moves):
        """That the last move alone is a fault, where nothing was taken off."""
        self.assert_carved(bed, shelf, moves, bed, [0] * (len(moves) - 1), (fault,))

    def assert_fits(self, bed, shelf, moves):
        """That there is no fault, where nothing is taken off."""
        self.assert_carved(bed, shelf, moves, bed, [0] * len(moves), None)


class HoldsTest(FaultsTest):
    bed = flat(3, 3, 500)

    def test_each_number_of_the_shelf(self):
        for many in range(1, 7):
            shelf = [(DOT, 1000)] * many
            for number in range(many):
                self.assert_fits(self.bed, shelf, [("hold", number)])
            for number in (-1, many, many + 1, -many, HUGE, -HUGE):
                self.assert_fault("shelf", self.bed, shelf, [("hold", number)])

    def test_which_cutter_is_held(self):
        shelf = [(DOT, 1000), ([(0, 0), (1, 0)], 1000), ([(0, 0), (0, 1)], 1000)]
        for number, cells in ((0, []), (1, [(1, 0, 400)]), (2, [(0, 1, 400)])):
            left = changed(self.bed, (0, 0, 400), *cells)
            self.assert_carved(self.bed, shelf, [("hold", number), ("slow", "z", 400)], left,
                               [0, 100 * (len(cells) + 1)], None)

    def test_another_cutter(self):
        shelf = [(DOT, 100), (DOT, 1000)]
        up = ("fast", "z", 1000)
        self.assert_carved(self.bed, shelf, [("hold", 0), ("slow", "z", 450), up, ("hold", 1), ("slow", "z", 0)],
                           changed(self.bed, (0, 0, 0)), [0, 50, 0, 0, 450], None)
        self.assert_fits(self.bed, shelf, [("hold", 0), ("hold", 0), ("hold", 1), ("hold", 0)])

    def test_low(self):
        shelf = [(DOT, 1000)]
        for z in (999, 500):
            for kind in ("fast", "slow"):
                self.assert_fault("low", self.bed, shelf, [("hold", 0), (kind, "z", z), ("hold", 0)])
        self.assert_fits(self.bed, shelf, [("hold", 0), ("fast", "z", 999), ("fast", "z", 1000), ("hold", 0)])

    def test_shelf_is_ahead_of_low(self):
        for number in (-1, 1, HUGE):
            self.assert_fault("shelf", self.bed, [(DOT, 1)], [("hold", 0), ("fast", "z", 600), ("hold", number)])

    def test_a_hold_does_not_look_at_the_stuff(self):
        shelf = [(DOT, 1), ([(0, 0), (1, 0)], 1)]
        self.assert_fits(flat(2, 2, 1000), shelf, [("hold", 1), ("hold", 0)])


class BareTest(FaultsTest):
    def test_each_move_ahead_of_any_hold(self):
        bed = flat(3, 3, 1000)
        for kind in ("fast", "slow"):
            for axis in ("x", "y", "z"):
                for to in (0, 1, 2, 1000):
                    self.assert_fault("bare", bed, [(DOT, 1000)], [(kind, axis, to)])

    def test_bare_is_ahead_of_out(self):
        bed = flat(3, 3, 1000)
        for kind in ("fast", "slow"):
            for axis in ("x", "y", "z"):
                for to in (-1, 3, 1001, HUGE, -HUGE):
                    self.assert_fault("bare", bed, [(DOT, 1)], [(kind, axis, to)])


class OutTest(FaultsTest):
    def test_the_first_and_the_last_cell_and_one_beyond(self):
        for kind in ("fast", "slow"):
            for width, depth in ((5, 3), (1, 1), (1, 4), (4, 1), (40, 40)):
                bed = flat(width, depth, 7)
                for axis, last in (("x", width - 1), ("y", depth - 1)):
                    self.assert_fits(bed, [(HOOK, 1)], [("hold", 0), (kind, axis, last), (kind, axis, 0)])
                    for to in (-1, last + 1, HUGE, -HUGE):
                        self.assert_fault("out", bed, [(HOOK, 1)], [("hold", 0), (kind, axis, to)])
                        self.assert_fault("out", bed, [(HOOK, 1)], [("hold", 0), (kind, axis, last), (kind, axis, to)])

    def test_z(self):
        bed = flat(2, 2, 0)
        for kind in ("fast", "slow"):
            self.assert_fits(bed, [(DOT, 1)], [("hold", 0), (kind, "z", 0), (kind, "z", 1000), (kind, "z", 1000)])
            for to in (-1, 1001, HUGE, -HUGE):
                self.assert_fault("out", bed, [(DOT, 1)], [("hold", 0), (kind, "z", to)])
                self.assert_fault("out", bed, [(DOT, 1)], [("hold", 0), (kind, "z", 0), (kind, "z", to)])

    def test_out_is_ahead_of_crash_and_bite(self):
        bed = changed(flat(3, 3, 100), (1, 0, 900), (0, 1, 900))
        for kind in ("fast", "slow"):
            for axis in ("x", "y"):
                for to in (3, -1, HUGE):
                    self.assert_fault("out", bed, [(DOT, 1)], [("hold", 0), ("fast", "z", 100), (kind, axis, to)])
            self.assert_fault("out", bed, [(DOT, 1)], [("hold", 0), ("fast", "z", 100), (kind, "z", -1)])


class CrashTest(FaultsTest):
    shelf = [(DOT, 1000)]

    def test_along_x(self):
        way = [("hold", 0), ("fast", "x", 1), ("fast", "z", 300), ("fast", "x", 4)]
        bed = flat(7, 1, 100)
        for place in (1, 2, 3, 4):
            self.assert_fits(changed(bed, (place, 0, 300)), self.shelf, way)
        for place in (2, 3, 4):
            self.assert_fault("crash", changed(bed, (place, 0, 301)), self.shelf, way)
        for place in (0, 5, 6):
            self.assert_fits(changed(bed, (place, 0, 1000)), self.shelf, way)

    def test_along_y(self):
        way = [("hold", 0), ("fast", "y", 1), ("fast", "z", 300), ("fast", "y", 4)]
        bed = flat(1, 7, 100)
        for place in (1, 2, 3, 4):
            self.assert_fits(changed(bed, (0, place, 300)), self.shelf, way)
        for place in (2, 3, 4):
            self.assert_fault("crash", changed(bed, (0, place, 301)), self.shelf, way)
        for place in (0, 5, 6):
            self.assert_fits(changed(bed, (0, place, 1000)), self.shelf, way)

    def test_back_along_x_and_y(self):
        for axis in ("x", "y"):
            way = [("hold", 0), ("fast", axis, 5), ("fast", "z", 300), ("fast", axis, 2)]
            for place, height, crashes in ((5, 300, False), (4, 301, True), (3, 300, False), (3, 301, True),
                                           (2, 300, False), (2, 301, True), (1, 1000, False), (6, 1000, False)):
                bed = flat(7, 7, 100)
                bed = changed(bed, (place, 0, height) if axis == "x" else (0, place, height))
                if crashes:
                    self.assert_fault("crash", bed, self.shelf, way)
                else:
                    self.assert_fits(bed, self.shelf, way)

    def test_along_z(self):
        bed = flat(2, 2, 300)
        for z in (1000, 999, 301, 300):
            self.assert_fits(bed, self.shelf, [("hold", 0), ("fast", "z", z), ("fast", "z", 1000)])
            self.assert_fits(bed, self.shelf, [("hold", 0), ("fast", "z", z), ("fast", "z", 300)])
        for z in (299, 1, 0):
            self.assert_fault("crash", bed, self.shelf, [("hold", 0), ("fast", "z", z)])
            self.assert_fault("crash", bed, self.shelf, [("hold", 0), ("fast", "z", 300), ("fast", "z", z)])

    def test_the_foot_on_the_way(self):
        shelf = [(HOOK, 1000)]
        way = [("hold", 0), ("fast", "y", 2), ("fast", "x", 2), ("fast", "z", 300), ("fast", "x", 3)]
        at_start = [(3, 2), (2, 2), (2, 4), (1, 1)]
        at_end = [(4, 2), (3, 2), (3, 4), (2, 1)]
        bed = flat(6, 6, 100)
        for x in range(6):
            for y in range(6):
                told = changed(bed, (x, y, 301))
                if (x, y) in at_start:
                    self.assert_fault("crash", told, shelf, way[:4])
                elif (x, y) in at_end:
                    self.assert_fault("crash", told, shelf, way)
                else:
                    self.assert_fits(told, shelf, way)
                self.assert_fits(changed(bed, (x, y, 300)), shelf, way)

    def test_cells_of_the_foot_outside_the_bed(self):
        foot = [(0, 0), (-3, 0), (3, 0), (0, -3), (0, 3), (3, 3), (-3, -3)]
        self.assert_fits(flat(2, 2, 300), [(foot, 1)],
                         [("hold", 0), ("fast", "z", 300), ("fast", "x", 1), ("fast", "y", 1)])
        # No cell is met from the other side of the bed.
        bed = changed(flat(4, 4, 300), (1, 0, 900), (0, 1, 900), (1, 1, 900), (2, 3, 900), (3, 2, 900))
        self.assert_fits(bed, [(foot, 1)], [("hold", 0), ("fast", "z", 300)])

    def test_the_bite_does_not_help_a_fast_move(self):
        self.assert_fault("crash", flat(1, 1, 300), [(DOT, 1000)], [("hold", 0), ("fast", "z", 299)])

    def test_to_where_the_cutter_is(self):
        for axis, to in (("x", 1), ("y", 1), ("z", 300)):
            self.assert_fits(flat(3, 3, 300), self.shelf, [("hold", 0), ("fast", "x", 1), ("fast", "y", 1),
                                                           ("fast", "z", 300), ("fast", axis, to)])

    def test_stuff_that_rises_over_the_top(self):
        # A bed somewhat beyond its bound: the cutter stands in the stuff, so each fast move there meets it.
        bed = flat(2, 2, 1001)
        for axis, to in (("x", 0), ("x", 1), ("y", 1), ("z", 1000)):
            self.assert_fault("crash", bed, self.shelf, [("hold", 0), ("fast", axis, to)])


class BiteTest(FaultsTest):
    def test_along_z(self):
        bed = flat(2, 2, 300)
        for bite in (1, 7, 299):
            shelf = [(DOT, bite)]
            self.assert_carved(bed, shelf, [("hold", 0), ("slow", "z", 300 - bite)], changed(bed, (0, 0, 300 - bite)),
                               [0, bite], None)
            self.assert_fault("bite", bed, shelf, [("hold", 0), ("slow", "z", 300 - bite - 1)])
        self.assert_carved(flat(1, 1, 1000), [(DOT, 1000)], [("hold", 0), ("slow", "z", 0)], [[0]], [0, 1000], None)
        self.assert_fault("bite", flat(1, 1, 1000), [(DOT, 999)], [("hold", 0), ("slow", "z", 0)])

    def test_along_x_and_y(self):
        for axis in ("x", "y"):
            way = [("hold", 0), ("fast", axis, 1), ("fast", "z", 300), ("slow", axis, 4)]
            for place in (2, 3, 4):
                at = (place, 0) if axis == "x" else (0, place)
                bed = flat(7, 7, 100)
                self.assert_carved(changed(bed, at + (350,)), [(DOT, 50)], way, changed(bed, at + (300,)), [0, 0, 0, 50],
                                   None)
                self.assert_fault("bite", changed(bed, at + (351,)), [(DOT, 50)], way)
            for place in (0, 5, 6):
                at = (place, 0) if axis == "x" else (0, place)
                self.assert_fits(changed(flat(7, 7, 100), at + (1000,)), [(DOT, 50)], way)

    def test_back_along_x_and_y(self):
        for axis in ("x", "y"):
            way = [("hold", 0), ("fast", axis, 5), ("fast", "z", 300), ("slow", axis, 2)]
            for place in (4, 3, 2):
                at = (place, 0) if axis == "x" else (0, place)
                bed = flat(7, 7, 100)
                self.assert_carved(changed(bed, at + (350,)), [(DOT, 50)], way, changed(bed, at + (300,)), [0, 0, 0, 50],
                                   None)
                self.assert_fault("bite", changed(bed, at + (351,)), [(DOT, 50)], way)
            self.assert_fits(changed(flat(7, 7, 100), (1, 1, 1000), (6, 6, 1000)), [(DOT, 50)], way)

    def test_one_cell_of_many(self):
        bed = flat(3, 3, 200)
        foot = [(0, 0), (1, 0), (0, 1), (1, 1)]
        way = [("hold", 0), ("slow", "z", 150)]
        for x, y in foot:
            self.assert_fault("bite", changed(bed, (x, y, 201)), [(foot, 50)], way)
        self.assert_carved(bed, [(foot, 50)], way, [[150, 150, 200], [150, 150, 200], [200, 200, 200]], [0, 200], None)

    def test_a_slow_move_does_not_crash(self):
        self.assert_carved(flat(1, 1, 300), [(DOT, 1)], [("hold", 0), ("slow", "z", 299)], [[299]], [0, 1], None)

    def test_a_bite_for_each_cutter(self):
        bed = flat(1, 1, 300)
        shelf = [(DOT, 10), (DOT, 20)]
        self.assert_fault("bite", bed, shelf, [("hold", 0), ("slow", "z", 285)])
        self.assert_carved(bed, shelf, [("hold", 1), ("slow", "z", 285)], [[285]], [0, 15], None)


class NothingDoneTest(FaultsTest):
    """A fault ends the row of moves, with the stuff as it was: also where some cells could have been cut."""

    def test_the_bed_stays(self):
        bed = changed(flat(5, 1, 310), (4, 0, 900))
        self.assert_fault("bite", bed, [(DOT, 20)], [("hold", 0), ("fast", "z", 310), ("slow", "x", 4)])
        way = [("hold", 0), ("slow", "z", 300), ("slow", "x", 4)]
        self.assert_carved(bed, [(DOT, 20)], way, changed(bed, (0, 0, 300)), [0, 10], ("bite",))

    def test_moves_behind_a_fault_are_not_done(self):
        bed = flat(2, 2, 300)
        for fault, move in (("shelf", ("hold", 1)), ("low", ("hold", 0)), ("out", ("slow", "x", 2)),
                            ("crash", ("fast", "z", 200)), ("bite", ("slow", "z", 279))):
            moves = [("hold", 0), ("slow", "z", 290), move, ("slow", "x", 1), ("fast", "z", 1000), ("hold", 0)]
            self.assert_carved(bed, [(DOT, 10)], moves, changed(bed, (0, 0, 290)), [0, 10], (fault,))
        self.assert_carved(bed, [(DOT, 10)], [("slow", "x", 1), ("hold", 0), ("slow", "z", 290)], bed, [], ("bare",))


if __name__ == "__main__":
    unittest.main()
