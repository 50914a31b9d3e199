"""A ground's cells by their numbers, the kinds of ground and the pieces."""

# Numbers are 13 y + x on every ground, so one list of 169 serves all sizes.
ROW = 13
CELLS = 169

# The order of each group is that of its signs in a rules' text: ".hmK" and ".SX#".
NOBODY = 0
HUNTER = 1
MAN = 2
KING = 3

PLAIN = 0
SEAT = 1
EXIT = 2
WALL = 3

# Whose each piece is: 0 the hunters', 1 the king's side's; nobody is on neither side.
SIDES = (2, 0, 1, 1)


class Position:
    def __init__(self, pieces, turn):
        self.pieces = pieces
        self.turn = turn


def king_cell(pieces):
    if KING in pieces:
        return pieces.index(KING)
    return -1


def may_stand(kind, piece):
    if piece == NOBODY or kind == PLAIN:
        return True
    return piece == KING and kind != WALL


def cells_downward(wide, high):
    # Texts tell the uppermost row first, though cells are counted from below.
    cells = []
    for row in range(high):
        bottom = ROW * (high - 1 - row)
        cells.extend([bottom + x for x in range(wide)])
    return cells


def cell_beside(wide, high, cell, right, up):
    x = cell % ROW + right
    y = cell // ROW + up
    if 0 <= x < wide and 0 <= y < high:
        return ROW * y + x
    return -1


def ways_of(wide, high):
    # One table for each way, since a cell's number alone doesn't tell where a ground ends.
    ways = []
    for step in ((0, 1), (1, 0), (0, -1), (-1, 0)):
        ways.append([cell_beside(wide, high, cell, step[0], step[1]) for cell in range(CELLS)])
    return ways
