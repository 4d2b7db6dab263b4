"""Beds by spans."""

from carvebed.carver import do_moves


def spans_of_row(heights):
    row = []
    for x, height in enumerate(heights):
        put_span(row, x, height)
    return row


# Neighbours are of unlike heights: what is as high as the span ahead of it is told by that one.
def put_span(row, start, height):
    if not row or row[-1][1] != height:
        row.append((start, height))


def spans_of(bed):
    return [spans_of_row(heights) for heights in bed]


# The spans as tuples (first, behind, height): behind is the first place that is no longer theirs.
def pieces_of(row, width):
    ends = [span[0] for span in row[1:]] + [width]
    return [(span[0], behind, span[1]) for span, behind in zip(row, ends)]


def heights_of_row(row, width):
    heights = []
    for first, behind, height in pieces_of(row, width):
        heights.extend([height] * (behind - first))
    return heights


def bed_of(spans, width):
    return [heights_of_row(row, width) for row in spans]


# What of the spans lies in a stretch (first, behind).
def pieces_within(row, width, stretch):
    cropped = [(max(piece[0], stretch[0]), min(piece[1], stretch[1]), piece[2]) for piece in pieces_of(row, width)]
    return [piece for piece in cropped if piece[0] < piece[1]]


def merged(stretches):
    told = []
    for first, behind in sorted(stretches):
        if told and first <= told[-1][1]:
            told[-1] = (told[-1][0], max(told[-1][1], behind))
        else:
            told.append((first, behind))
    return told


def cut_row(row, width, stretch, height):
    told = []
    for piece in pieces_within(row, width, (0, stretch[0])):
        put_span(told, piece[0], piece[2])
    for piece in pieces_within(row, width, stretch):
        put_span(told, piece[0], min(piece[2], height))
    for piece in pieces_within(row, width, (stretch[1], width)):
        put_span(told, piece[0], piece[2])
    return told


# What lies under a cutter is told as tuples (y, stretch), no two stretches of a row with a cell in common.
class Spans:
    def __init__(self, spans, width):
        self.rows = [list(row) for row in spans]
        self.width = width

    def has_cell(self, x, y):
        return 0 <= y < len(self.rows) and 0 <= x < self.width

    def under(self, foot, way):
        found = {}
        for step in foot:
            first = max(way["x"][0] + step[0], 0)
            behind = min(way["x"][1] + step[0] + 1, self.width)
            for y in range(way["y"][0] + step[1], way["y"][1] + step[1] + 1):
                if first < behind and 0 <= y < len(self.rows):
                    found.setdefault(y, []).append((first, behind))
        told = []
        for y, stretches in found.items():
            told.extend([(y, stretch) for stretch in merged(stretches)])
        return told

    def pieces_above(self, y, stretch, height):
        return [piece for piece in pieces_within(self.rows[y], self.width, stretch) if piece[2] > height]

    def rises_above(self, under, height):
        return any([len(self.pieces_above(y, stretch, height)) > 0 for y, stretch in under])

    def cut_down(self, under, height):
        taken = 0
        for y, stretch in under:
            pieces = self.pieces_above(y, stretch, height)
            if pieces:
                taken += sum([(piece[1] - piece[0]) * (piece[2] - height) for piece in pieces])
                self.rows[y] = cut_row(self.rows[y], self.width, stretch, height)
        return taken


def carved_spans(spans, width, shelf, moves):
    stuff = Spans(spans, width)
    done = do_moves(stuff, shelf, moves)
    return (stuff.rows, done[0], done[1])
