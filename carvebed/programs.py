"""Texts read as programs."""

from carvebed.errors import NoPlace, NoSub, Open, TooDeep, TooLong, Twice
from carvebed.rows import row_of

MOST_ROWS = 120
MOST_BODIES = 6


class Draft:
    def __init__(self):
        self.subs = []
        self.body = []
        # Tuples (word, body, body behind an else), the innermost last; a body fills up while it stands here.
        self.unended = []
        self.names_due = {}
        self.calls = []

    def put(self, row):
        word = row[0]
        if word == "sub":
            self.begin_sub(row[1], row[2])
        elif word == "times":
            self.begin_times(row)
        elif word == "if":
            self.begin_if(row)
        elif word == "else":
            self.turn_to_else()
        elif word == "end":
            self.end_body()
        else:
            self.put_plain(row)

    def innermost(self):
        if self.unended:
            return self.unended[-1][1]
        return self.body

    def put_plain(self, row):
        # A call's sub may stand behind it, so calls are looked at when all rows are there.
        if row[0] == "call":
            self.calls.append(row)
        self.innermost().append(row)

    def look_at_depth(self):
        if len(self.unended) == MOST_BODIES:
            raise TooDeep("bodies stand at most 6 deep")

    def begin_sub(self, name, names):
        if self.unended:
            raise NoPlace("a sub stands in no other body")
        if name in self.names_due or len(set(names)) < len(names):
            raise Twice(f"a name stands twice at the sub {name!r}")
        body = []
        self.names_due[name] = len(names)
        self.subs.append((name, names, body))
        self.unended.append(("sub", body, None))

    def begin_times(self, row):
        self.look_at_depth()
        body = []
        self.innermost().append(("times", row[1], row[2], body))
        self.unended.append(("times", body, None))

    def begin_if(self, row):
        self.look_at_depth()
        body = []
        other = []
        self.innermost().append(("if", row[1], row[2], row[3], body, other))
        self.unended.append(("if", body, other))

    def turn_to_else(self):
        if not self.unended or self.unended[-1][0] != "if":
            raise NoPlace("an else stands behind the first body of an if alone")
        ended = self.unended.pop()
        self.unended.append(("else", ended[2], None))

    def end_body(self):
        if not self.unended:
            raise NoPlace("an end without a body")
        self.unended.pop()

    def look_at_end(self):
        if self.unended:
            raise Open("a body is not ended")

    def look_at_calls(self):
        for call in self.calls:
            name = call[1]
            if name not in self.names_due or self.names_due[name] != len(call[2]):
                raise NoSub(f"no sub for a call of {name!r}")


def read(text):
    texts = text.split("\n")
    if len(texts) > MOST_ROWS:
        raise TooLong("a program has at most 120 rows")
    draft = Draft()
    for row_text in texts:
        draft.put(row_of(row_text))
    draft.look_at_end()
    draft.look_at_calls()
    return (draft.subs, draft.body)
