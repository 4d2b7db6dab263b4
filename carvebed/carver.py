"""A carver: where it stands, which moves it does, and which are faults.

How the stuff is kept is not its affair: it asks an object for that, which tells whether there is a cell at a
place, what lies under a foot on a way, whether that rises above a height, and which cuts it down to one.
A way is a dict of each axis's least and greatest number on it: in which direction it is gone makes no difference.
"""

TOP = 1000
BEGINNING = {"x": 0, "y": 0, "z": 1000}


class Fault(Exception):
    def __init__(self, fault):
        self.fault = fault


class Carver:
    def __init__(self, stuff, shelf):
        self.stuff = stuff
        self.shelf = shelf
        self.cutter = None
        self.stands = dict(BEGINNING)

    # How much the move took off. A fault is raised ahead of all changes, as it is to do nothing.
    def do(self, move):
        if move[0] == "hold":
            return self.do_hold(move[1])
        return self.do_move(move[0], move[1], move[2])

    def do_hold(self, number):
        if not 0 <= number < len(self.shelf):
            raise Fault(("shelf",))
        if self.stands["z"] != TOP:
            raise Fault(("low",))
        self.cutter = self.shelf[number]
        return 0

    def do_move(self, kind, axis, to):
        if self.cutter is None:
            raise Fault(("bare",))
        if not self.has_room(axis, to):
            raise Fault(("out",))
        way = self.way_to(axis, to)
        if kind == "fast":
            taken = self.pass_over(way)
        else:
            taken = self.cut_along(way)
        self.stands[axis] = to
        return taken

    def has_room(self, axis, to):
        if axis == "x":
            return self.stuff.has_cell(to, self.stands["y"])
        if axis == "y":
            return self.stuff.has_cell(self.stands["x"], to)
        return 0 <= to <= TOP

    def way_to(self, axis, to):
        here = self.stands[axis]
        way = dict([(one, (place, place)) for one, place in self.stands.items()])
        way[axis] = (min(here, to), max(here, to))
        return way

    def pass_over(self, way):
        under = self.stuff.under(self.cutter[0], way)
        if self.stuff.rises_above(under, way["z"][0]):
            raise Fault(("crash",))
        return 0

    def cut_along(self, way):
        under = self.stuff.under(self.cutter[0], way)
        lowest = way["z"][0]
        if self.stuff.rises_above(under, lowest + self.cutter[1]):
            raise Fault(("bite",))
        return self.stuff.cut_down(under, lowest)


def do_moves(stuff, shelf, moves):
    carver = Carver(stuff, shelf)
    taken = []
    for move in moves:
        try:
            taken.append(carver.do(move))
        except Fault as fault:
            return (taken, fault.fault)
    return (taken, None)
