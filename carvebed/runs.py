"""What the plain run and the machine share: the bounds, the stops, and the track of the moves made."""

MOST_NUMBER = 1000000
MOST_CALLS = 10
MOST_COUNTED = 2000
BEGINNING = {"x": 0, "y": 0, "z": 1000}


class Stop(Exception):
    def __init__(self, end):
        self.end = end


def is_big(number):
    return number > MOST_NUMBER or number < -MOST_NUMBER


def bounded(number):
    if is_big(number):
        raise Stop(("big",))
    return number


def joined(sign, first, second):
    if sign == "+":
        return first + second
    if sign == "-":
        return first - second
    return first * second


def look_at_depth(calls_before):
    if calls_before >= MOST_CALLS:
        raise Stop(("deep",))


class Track:
    def __init__(self):
        self.moves = []
        self.places = dict(BEGINNING)
        self.counted = 0

    def count_one(self):
        if self.counted == MOST_COUNTED:
            raise Stop(("long",))
        self.counted += 1

    def make_hold(self, number):
        self.moves.append(("hold", number))

    def make_move(self, kind, axis, number, by):
        to = bounded((self.places[axis] + number) if by else number)
        self.places[axis] = to
        self.moves.append((kind, axis, to))
