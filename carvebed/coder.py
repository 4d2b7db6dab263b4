"""Programs turned to code.

A program is opened up into parts, these into smaller ones, till rows alone are left. What is still due
stands in a list, so that nothing leans on how deep Python may recurse. The parts are tuples: ("row", row),
("mark", mark), ("told", expression), ("body", body) and ("statement", statement). A row may go to a mark
that is not met yet, so the places come into the rows when all of them lie there.
"""

from carvebed.runs import is_big

SIGN_WORDS = {"+": "add", "-": "sub", "*": "mul", "<": "less", "=": "same"}


def parts_of_number(number):
    push = ("row", ("push", number))
    # The machine looks at what it makes alone, but a written number that is too big ends a run too.
    if is_big(number):
        return [push, ("row", ("push", 0)), ("row", ("add",))]
    return [push]


def parts_of_told(told):
    if told[0] == "number":
        return parts_of_number(told[1])
    if told[0] == "name":
        return [("row", ("load", told[1]))]
    return [("told", told[1]), ("told", told[2]), ("row", (SIGN_WORDS[told[0]],))]


def parts_of_call(statement):
    return [("row", ("deeper",))] + [("told", told) for told in statement[2]] + [("row", ("call", statement[1]))]


def parts_of_times(statement, number):
    # No name of a program has a blank. Each times has names of its own, as others may stand within it.
    turn = f"turn {number}"
    turns = f"turns {number}"
    begin = ("begin", number)
    behind = ("behind", number)
    head = [
        ("told", statement[2]), ("row", ("store", turns)), ("row", ("push", 0)), ("row", ("store", turn)),
    ]
    look = [
        ("mark", begin), ("row", ("load", turn)), ("row", ("load", turns)), ("row", ("less",)),
        ("row", ("unless", behind)),
    ]
    each_turn = [
        ("row", ("count",)), ("row", ("load", turn)), ("row", ("store", statement[1])),
        ("row", ("load", turn)), ("row", ("push", 1)), ("row", ("add",)), ("row", ("store", turn)),
    ]
    return head + look + each_turn + [("body", statement[3]), ("row", ("jump", begin)), ("mark", behind)]


def parts_of_if(statement, number):
    other = ("other", number)
    behind = ("behind", number)
    return [
        ("told", statement[2]), ("told", statement[3]), ("row", (SIGN_WORDS[statement[1]],)),
        ("row", ("unless", other)), ("body", statement[4]), ("row", ("jump", behind)),
        ("mark", other), ("body", statement[5]), ("mark", behind),
    ]


def parts_of_statement(statement, number):
    word = statement[0]
    if word == "hold":
        return [("told", statement[1]), ("row", ("hold",))]
    if word == "move":
        return [("told", statement[3]), ("row", ("move", statement[1], statement[2], statement[4]))]
    if word == "let":
        return [("told", statement[2]), ("row", ("store", statement[1]))]
    if word == "call":
        return parts_of_call(statement)
    if word == "times":
        return parts_of_times(statement, number)
    return parts_of_if(statement, number)


class Sheet:
    def __init__(self):
        self.rows = []
        self.marked = {}
        self.numbered = 0

    def lay(self, parts):
        due = parts[::-1]
        while due:
            part = due.pop()
            if part[0] == "row":
                self.rows.append(part[1])
            elif part[0] == "mark":
                self.marked[part[1]] = len(self.rows)
            else:
                due.extend(self.parts_within(part)[::-1])

    def parts_within(self, part):
        if part[0] == "told":
            return parts_of_told(part[1])
        if part[0] == "body":
            return [("statement", statement) for statement in part[1]]
        self.numbered += 1
        return [("row", ("count",))] + parts_of_statement(part[1], self.numbered)

    def placed(self, row, names_due):
        if row[0] in ("jump", "unless"):
            return (row[0], self.marked[row[1]])
        if row[0] == "call":
            return ("call", self.marked[("sub", row[1])], list(names_due[row[1]]))
        return row


def code_of(program):
    sheet = Sheet()
    sheet.lay([("body", program[1]), ("row", ("stop",))])
    for sub in program[0]:
        sheet.lay([("mark", ("sub", sub[0])), ("body", sub[2]), ("row", ("back",))])
    names_due = dict([(sub[0], sub[1]) for sub in program[0]])
    return [sheet.placed(row, names_due) for row in sheet.rows]
