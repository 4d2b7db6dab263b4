"""Beds, cell by cell."""

from carvebed.carver import do_moves


# What lies under a cutter is told as a list of cells (x, y), none of them twice.
class Cells:
    def __init__(self, bed):
        self.rows = [list(row) for row in bed]

    def has_cell(self, x, y):
        return 0 <= y < len(self.rows) and 0 <= x < len(self.rows[y])

    def under(self, foot, way):
        found = {}
        for y in range(way["y"][0], way["y"][1] + 1):
            for x in range(way["x"][0], way["x"][1] + 1):
                for step in foot:
                    found[(x + step[0], y + step[1])] = True
        return [cell for cell in found if self.has_cell(cell[0], cell[1])]

    def rises_above(self, under, height):
        return any([self.rows[cell[1]][cell[0]] > height for cell in under])

    def cut_down(self, under, height):
        taken = 0
        for cell in under:
            row = self.rows[cell[1]]
            if row[cell[0]] > height:
                taken += row[cell[0]] - height
                row[cell[0]] = height
        return taken


def carved(bed, shelf, moves):
    cells = Cells(bed)
    done = do_moves(cells, shelf, moves)
    return (cells.rows, done[0], done[1])
