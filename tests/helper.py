"""What the tests share: refusals and values looked at closely, rows that count, and what is drawn."""

from carvebed import errors
from carvebed.desk import Desk

REFUSALS = (
    "TooLong", "NoRow", "NoPlace", "TooDeep", "Twice", "Open", "NoSub",
    "NoForm", "NoBed", "NoMeasure", "NoCell", "NoCutter",
)


def refusal_of(function, asked):
    """The names of all refusals that what was raised is one of; None where nothing was raised."""
    try:
        function(asked)
    except errors.CarveError as error:
        return [name for name in REFUSALS if isinstance(error, getattr(errors, name))]
    return None


def text_of(*rows):
    return "\n".join(rows)


def counting(many):
    """Rows that count just so many, and make no moves: a times, and its turns."""
    return ["times pad " + str(many - 1), "end"]


def nested(depth, last):
    """A sub that calls itself that many deep, each call a hold, and then does the last row."""
    return ["sub a n", "hold n", "if n < " + str(depth), "call a n+1", "else", last, "end", "end", "call a 1"]


def exact(value):
    """A text that differs for lists and tuples, and for truths and numbers, where == may not."""
    if isinstance(value, (list, tuple)):
        return type(value).__name__ + "(" + ", ".join([exact(part) for part in value]) + ")"
    return type(value).__name__ + " " + repr(value)


def lists_in(value):
    """All lists within a value, itself too."""
    found = []
    if isinstance(value, list):
        found.append(value)
    if isinstance(value, (list, tuple)):
        for part in value:
            found.extend(lists_in(part))
    return found


def all_apart(lists):
    """Whether no two of the lists are one."""
    return len({id(one): one for one in lists}) == len(lists)


class Draws:
    """Numbers drawn one after another, the same each time and under each Python."""

    def __init__(self, seed):
        self.state = seed

    def below(self, many):
        self.state = (self.state * 6364136223846793005 + 1442695040888963407) % 2 ** 64
        return (self.state >> 33) % many

    def between(self, least, most):
        return least + self.below(most - least + 1)

    def among(self, choices):
        return choices[self.below(len(choices))]


ROW_LENGTHS = {
    "push": 2, "load": 2, "store": 2, "add": 1, "sub": 1, "mul": 1, "less": 1, "same": 1, "jump": 2, "unless": 2,
    "call": 3, "back": 1, "count": 1, "deeper": 1, "hold": 1, "move": 4, "stop": 1,
}


def is_whole(value):
    return isinstance(value, int) and not isinstance(value, bool)


def is_code_row(row, length):
    """Whether a row is of one of the seventeen forms, in code of that many rows."""
    if not isinstance(row, tuple) or not row or ROW_LENGTHS.get(row[0]) != len(row):
        return False
    if row[0] == "push":
        return is_whole(row[1])
    if row[0] in ("load", "store"):
        return isinstance(row[1], str)
    if row[0] == "move":
        return row[1] in ("fast", "slow") and row[2] in ("x", "y", "z") and (row[3] is True or row[3] is False)
    if row[0] in ("jump", "unless", "call") and not (is_whole(row[1]) and 0 <= row[1] < length):
        return False
    if row[0] == "call":
        names = row[2]
        return isinstance(names, list) and len(set(names)) == len(names) and all(isinstance(n, str) for n in names)
    return True


# Feet: one cell; and one that is alike on no two sides, to the right, down, and aslant to the left and up.
DOT = [(0, 0)]
HOOK = [(1, 0), (0, 0), (0, 2), (-1, -1)]


def flat(width, depth, height):
    return [[height] * width for y in range(depth)]


def drawn_cutter(draws):
    foot = {(0, 0): True}
    for turn in range(draws.below(25)):
        reach = draws.between(1, 3)
        foot[(draws.between(-reach, reach), draws.between(-reach, reach))] = True
    cells = list(foot)
    turned = draws.below(len(cells))
    return (cells[turned:] + cells[:turned], draws.among((1, 5, 30, 200, 1000)))


def drawn_shelf(draws):
    return [drawn_cutter(draws) for turn in range(draws.between(1, 6))]


def drawn_wishes(draws, width, depth):
    """A bed and a wished shape: flat, with steps, or rough; wished wholly, in part, or hardly lower than it is."""
    heights = draws.among(((90,), (60, 90), (0, 30, 60, 90), tuple(range(91))))
    bed = [[draws.among(heights) for x in range(width)] for y in range(depth)]
    how = draws.below(4)
    floor = draws.below(91)
    wished = []
    for row in bed:
        if how == 0:
            wished.append([draws.between(0, height) for height in row])
        elif how == 1:
            wished.append([min(height, floor) for height in row])
        elif how == 2:
            wished.append([min(height, draws.among((0, floor, floor, 90))) for height in row])
        else:
            wished.append([height if draws.below(6) else max(height - 7, 0) for height in row])
    return bed, wished


def cells_of(bed):
    """All cells (x, y), by y, then by x."""
    return [(x, y) for y, row in enumerate(bed) for x in range(len(row))]


def under(bed, cutter, x, y):
    """The heights of the cells under a cutter by their cells, these by y, then by x."""
    cells = sorted([(y + dy, x + dx) for dx, dy in cutter[0]])
    return {(cx, cy): bed[cy][cx] for cy, cx in cells if cy in range(len(bed)) and cx in range(len(bed[0]))}


def desk_told(*rows):
    """A desk that was told rows, none of them refused."""
    desk = Desk()
    for row in rows:
        desk.say(row)
    return desk
