"""Positions' lines: written, and read with their faults."""

from kinghalldesk.cells import CELLS, KING, NOBODY, Position, cells_downward, may_stand
from kinghalldesk.reader import Reader, Stuck
from kinghalldesk.texts import DIGITS, as_bytes

PIECE_SIGNS = ".hmK"
TURN_SIGNS = "hk"


class LineFault(ValueError):
    def __init__(self, kind, place):
        self.kind = kind
        self.place = place


class LineDraft:
    # A line as its grammar tells it: for each cell, downward, its piece and the place it's told at.
    def __init__(self):
        self.pieces = []
        self.places = []
        self.signs = "hmK"
        self.turn = 0

    def leave_free(self, many):
        for cell in range(many):
            self.pieces.append(NOBODY)
            self.places.append(0)

    def put(self, reader):
        self.places.append(reader.place)
        self.pieces.append(1 + reader.one_sign(self.signs))
        # There's one K at most: behind the first, no other goes on.
        if self.pieces[-1] == KING:
            self.signs = "hm"


def read_many(reader, left):
    many = 1 + reader.one_sign(DIGITS[1:left + 1])
    more = left - 10 * many
    if more >= 0 and reader.sees_any(DIGITS[:more + 1]):
        many = 10 * many + reader.one_sign(DIGITS)
    return many


def read_row(reader, wide, draft):
    left = wide
    behind_number = False
    while left > 0:
        if not behind_number and reader.sees_any(DIGITS):
            many = read_many(reader, left)
            draft.leave_free(many)
            left -= many
            behind_number = True
        else:
            draft.put(reader)
            left -= 1
            behind_number = False


def read_draft(wide, high, reader):
    draft = LineDraft()
    for row in range(high):
        if row > 0:
            reader.expect("/")
        read_row(reader, wide, draft)
    reader.expect(" ")
    draft.turn = reader.one_sign(TURN_SIGNS)
    reader.expect_end()
    return draft


def settle(rules, draft):
    pieces = [NOBODY for cell in range(CELLS)]
    for told, cell in enumerate(cells_downward(rules.wide, rules.high)):
        pieces[cell] = draft.pieces[told]
        if not may_stand(rules.ground[cell], pieces[cell]):
            raise LineFault(2, draft.places[told])
    return Position(pieces, draft.turn)


def read_line(rules, line):
    try:
        draft = read_draft(rules.wide, rules.high, Reader(line))
    except Stuck as stuck:
        raise LineFault(1, stuck.place)
    return settle(rules, draft)


def row_text(pieces):
    text = ""
    free = 0
    for piece in pieces:
        if piece == NOBODY:
            free += 1
        else:
            text += free_text(free) + PIECE_SIGNS[piece]
            free = 0
    return text + free_text(free)


def free_text(free):
    return str(free) if free > 0 else ""


def write_line(rules, position):
    told = [position.pieces[cell] for cell in cells_downward(rules.wide, rules.high)]
    rows = [row_text(told[rules.wide * row:rules.wide * (row + 1)]) for row in range(rules.high)]
    return as_bytes("/".join(rows) + " " + TURN_SIGNS[position.turn])
