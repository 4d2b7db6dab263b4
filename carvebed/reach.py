"""What of a wished shape can be had with a shelf of cutters, and why no more."""


# By y, then by x.
def cells_of(bed):
    told = []
    for y, row in enumerate(bed):
        told.extend([(x, y) for x in range(len(row))])
    return told


def within(bed, cells):
    return [cell for cell in cells if 0 <= cell[1] < len(bed) and 0 <= cell[0] < len(bed[0])]


def cells_under(bed, cutter, x, y):
    return within(bed, [(x + step[0], y + step[1]) for step in cutter[0]])


# The places at which the cell is under the cutter, rising by x, then by y.
def places_over(bed, cutter, x, y):
    return sorted(within(bed, [(x - step[0], y - step[1]) for step in cutter[0]]))


# Of no cells 0, as low as a cutter can go at all.
def greatest(bed, cells):
    return max([bed[cell[1]][cell[0]] for cell in cells], default=0)


def lowest_at(wished, cutter, x, y):
    return greatest(wished, cells_under(wished, cutter, x, y))


def lowest_over(bed, wished, shelf, x, y):
    told = bed[y][x]
    for cutter in shelf:
        for place in places_over(bed, cutter, x, y):
            told = min(told, lowest_at(wished, cutter, place[0], place[1]))
    return told


def cut_down(bed, cells, height):
    for cell in cells:
        row = bed[cell[1]]
        row[cell[0]] = min(row[cell[0]], height)


# Gone through by places, not by cells as lowest_over does, so that each place's lowest is looked for but once.
def had(bed, wished, shelf):
    told = [list(row) for row in bed]
    for cutter in shelf:
        for place in cells_of(bed):
            under = cells_under(bed, cutter, place[0], place[1])
            cut_down(told, under, greatest(wished, under))
    return told


def first_as_high(wished, cells, height):
    found = [cell for cell in cells if wished[cell[1]][cell[0]] >= height]
    return min(found, key=lambda cell: (cell[1], cell[0]))


def why_left(bed, wished, shelf, x, y):
    left = lowest_over(bed, wished, shelf, x, y)
    told = []
    for number, cutter in enumerate(shelf):
        for place in places_over(bed, cutter, x, y):
            spoiled = first_as_high(wished, cells_under(bed, cutter, place[0], place[1]), left)
            told.append((number, place[0], place[1], spoiled[0], spoiled[1]))
    return told
