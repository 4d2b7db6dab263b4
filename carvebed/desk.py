"""A desk: it is told rows, one at a time, and answers each by a text."""

from carvebed.beds import carved
from carvebed.errors import NoBed, NoCell, NoCutter, NoForm, NoMeasure
from carvebed.plain import run_plainly
from carvebed.programs import read
from carvebed.reach import lowest_over
from carvebed.words import is_number

NUMBERS_DUE = {"bed": 3, "cutter": 2, "drop": 0, "carve": 0, "cell": 2, "show": 0, "low": 2}
ROW_AHEAD = "row "
SIDES = (1, 40)
HEIGHTS = (0, 1000)
BITES = (1, 1000)
REACHES = (0, 2)
MOST_CUTTERS = 6


# A tuple (word, what is told behind it): a text behind row, a list of numbers behind all others.
def told_in(row):
    if "\n" in row:
        raise NoForm("a row has no line feed in it")
    if row.startswith(ROW_AHEAD):
        return ("row", row[len(ROW_AHEAD):])
    words = row.split(" ")
    # Of a first word that is no row's None is due, which no many of words is like.
    if NUMBERS_DUE.get(words[0]) != len(words) - 1 or not all([is_number(word) for word in words[1:]]):
        raise NoForm(f"no form of a row: {row!r}")
    return (words[0], [int(word) for word in words[1:]])


def look_at_measure(number, bounds):
    if not bounds[0] <= number <= bounds[1]:
        raise NoMeasure(f"out of its bounds: {number}")


def look_at_cell(bed, x, y):
    if not (x < len(bed[0]) and y < len(bed)):
        raise NoCell(f"no cell: {x} {y}")


def look_at_shelf(shelf):
    if not shelf:
        raise NoCutter("there is no cutter yet")


def lay_bed(desk, numbers):
    look_at_measure(numbers[0], SIDES)
    look_at_measure(numbers[1], SIDES)
    look_at_measure(numbers[2], HEIGHTS)
    desk.bed = [[numbers[2]] * numbers[0] for y in range(numbers[1])]
    desk.shelf = []
    desk.rows = []
    return "ok"


def square_foot(side):
    foot = []
    for y in range(-side, side + 1):
        foot.extend([(x, y) for x in range(-side, side + 1)])
    return foot


def put_cutter(desk, numbers):
    look_at_measure(numbers[0], BITES)
    look_at_measure(numbers[1], REACHES)
    if len(desk.shelf) == MOST_CUTTERS:
        raise NoMeasure("a shelf has at most 6 cutters")
    desk.shelf.append((square_foot(numbers[1]), numbers[0]))
    return "ok"


def put_row(desk, text):
    desk.rows.append(text)
    return "ok"


def drop_rows(desk, numbers):
    desk.rows = []
    return "ok"


def end_told(end, fault):
    if fault is not None:
        return "fault " + fault[0]
    if end[0] == "done":
        return "done"
    return "stop " + end[0]


def carve(desk, numbers):
    look_at_shelf(desk.shelf)
    run = run_plainly(read("\n".join(desk.rows)))
    done = carved(desk.bed, desk.shelf, run[0])
    desk.bed = done[0]
    return end_told(run[1], done[2]) + " " + str(sum(done[1]))


def tell_cell(desk, numbers):
    look_at_cell(desk.bed, numbers[0], numbers[1])
    return str(desk.bed[numbers[1]][numbers[0]])


def show(desk, numbers):
    return "\n".join([" ".join([str(height) for height in row]) for row in desk.bed])


def tell_low(desk, numbers):
    x = numbers[0]
    y = numbers[1]
    look_at_cell(desk.bed, x, y)
    look_at_shelf(desk.shelf)
    wished = [list(row) for row in desk.bed]
    wished[y][x] = 0
    return str(lowest_over(desk.bed, wished, desk.shelf, x, y))


DOINGS = {
    "bed": lay_bed,
    "cutter": put_cutter,
    "row": put_row,
    "drop": drop_rows,
    "carve": carve,
    "cell": tell_cell,
    "show": show,
    "low": tell_low,
}


class Desk:
    def __init__(self):
        self.bed = None
        self.shelf = []
        self.rows = []

    def say(self, row):
        told = told_in(row)
        if self.bed is None and told[0] != "bed":
            raise NoBed("there is no bed yet")
        return DOINGS[told[0]](self, told[1])
