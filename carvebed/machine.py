"""The machine that does code, row by row."""

from carvebed.runs import Stop, Track, bounded, joined, look_at_depth


class Machine:
    def __init__(self):
        self.place = 0
        self.heap = []
        self.frames = [{}]
        # Where the open calls go on when they are closed, the one opened last behind the others.
        self.returns = []
        self.track = Track()

    def step(self, code):
        row = code[self.place]
        self.place += 1
        DOINGS[row[0]](self, row)

    def take(self):
        return self.heap.pop()

    # The numbers in the order in which they were laid.
    def take_many(self, many):
        taken = [self.take() for turn in range(many)]
        return taken[::-1]


def do_push(machine, row):
    machine.heap.append(row[1])


def do_load(machine, row):
    names = machine.frames[-1]
    if row[1] not in names:
        raise Stop(("unknown", row[1]))
    machine.heap.append(names[row[1]])


def do_store(machine, row):
    machine.frames[-1][row[1]] = machine.take()


def lay_joined(machine, sign):
    pair = machine.take_many(2)
    machine.heap.append(bounded(joined(sign, pair[0], pair[1])))


def do_add(machine, row):
    lay_joined(machine, "+")


def do_sub(machine, row):
    lay_joined(machine, "-")


def do_mul(machine, row):
    lay_joined(machine, "*")


def do_less(machine, row):
    pair = machine.take_many(2)
    machine.heap.append(1 if pair[0] < pair[1] else 0)


def do_same(machine, row):
    pair = machine.take_many(2)
    machine.heap.append(1 if pair[0] == pair[1] else 0)


def do_jump(machine, row):
    machine.place = row[1]


def do_unless(machine, row):
    if machine.take() == 0:
        machine.place = row[1]


def do_call(machine, row):
    numbers = machine.take_many(len(row[2]))
    machine.frames.append(dict(zip(row[2], numbers)))
    machine.returns.append(machine.place)
    machine.place = row[1]


def do_back(machine, row):
    machine.frames.pop()
    machine.place = machine.returns.pop()


def do_count(machine, row):
    machine.track.count_one()


def do_deeper(machine, row):
    look_at_depth(len(machine.returns))


def do_hold(machine, row):
    machine.track.make_hold(machine.take())


def do_move(machine, row):
    machine.track.make_move(row[1], row[2], machine.take(), row[3])


def do_stop(machine, row):
    raise Stop(("done",))


DOINGS = {
    "push": do_push,
    "load": do_load,
    "store": do_store,
    "add": do_add,
    "sub": do_sub,
    "mul": do_mul,
    "less": do_less,
    "same": do_same,
    "jump": do_jump,
    "unless": do_unless,
    "call": do_call,
    "back": do_back,
    "count": do_count,
    "deeper": do_deeper,
    "hold": do_hold,
    "move": do_move,
    "stop": do_stop,
}


def do_code(code):
    machine = Machine()
    try:
        while True:
            machine.step(code)
    except Stop as stop:
        return (machine.track.moves, stop.end)
