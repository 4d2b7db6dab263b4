"""Programs run plainly, statement by statement."""

from carvebed.runs import Stop, Track, bounded, joined, look_at_depth


def reckoned(told, names):
    if told[0] == "number":
        return bounded(told[1])
    if told[0] == "name":
        return named(told[1], names)
    first = reckoned(told[1], names)
    second = reckoned(told[2], names)
    return bounded(joined(told[0], first, second))


def named(name, names):
    if name not in names:
        raise Stop(("unknown", name))
    return names[name]


# A body that is being done. Only a times has turns; all other bodies are done once, from their first statement.
class Walk:
    def __init__(self, body, names, of_call):
        self.body = body
        self.names = names
        self.of_call = of_call
        self.at = 0
        self.counter = ""
        self.turn = 0
        self.turns = 0


class Run:
    def __init__(self, program):
        self.subs = dict([(sub[0], sub) for sub in program[0]])
        self.track = Track()
        # The innermost last. They stand in a list, not in calls of this program's own, so that
        # bodies and calls within one another don't lean on how deep Python may recurse.
        self.walks = [Walk(program[1], {}, False)]

    def go(self):
        while self.walks:
            self.step(self.walks[-1])

    def step(self, walk):
        if walk.at < len(walk.body):
            walk.at += 1
            self.do(walk.body[walk.at - 1], walk.names)
        elif walk.turn < walk.turns:
            self.begin_turn(walk)
        else:
            self.walks.pop()

    def begin_turn(self, walk):
        self.track.count_one()
        walk.names[walk.counter] = walk.turn
        walk.turn += 1
        walk.at = 0

    def do(self, statement, names):
        self.track.count_one()
        word = statement[0]
        if word == "hold":
            self.track.make_hold(reckoned(statement[1], names))
        elif word == "move":
            self.track.make_move(statement[1], statement[2], reckoned(statement[3], names), statement[4])
        elif word == "let":
            names[statement[1]] = reckoned(statement[2], names)
        elif word == "call":
            self.do_call(statement, names)
        elif word == "times":
            self.do_times(statement, names)
        else:
            self.do_if(statement, names)

    def do_call(self, statement, names):
        look_at_depth(len([walk for walk in self.walks if walk.of_call]))
        sub = self.subs[statement[1]]
        numbers = [reckoned(told, names) for told in statement[2]]
        self.walks.append(Walk(sub[2], dict(zip(sub[1], numbers)), True))

    def do_times(self, statement, names):
        walk = Walk(statement[3], names, False)
        walk.counter = statement[1]
        walk.turns = reckoned(statement[2], names)
        # At its end from the start, so that its first turn is begun, and counted, like all others.
        walk.at = len(walk.body)
        self.walks.append(walk)

    def do_if(self, statement, names):
        first = reckoned(statement[2], names)
        second = reckoned(statement[3], names)
        holds = (first < second) if statement[1] == "<" else (first == second)
        self.walks.append(Walk(statement[4] if holds else statement[5], names, False))


def run_plainly(program):
    run = Run(program)
    try:
        run.go()
    except Stop as stop:
        return (run.track.moves, stop.end)
    return (run.track.moves, ("done",))
