"""Moves' lines: written, and read as far as they go."""

from kinghalldesk.cells import ROW
from kinghalldesk.moving import moves_of
from kinghalldesk.texts import as_bytes

COLUMNS = "abcdefghijklm"


class NotAMoveLine(ValueError):
    def __init__(self, place):
        self.place = place


def cell_name(cell):
    return COLUMNS[cell % ROW] + str(cell // ROW + 1)


def write_move(move):
    text = cell_name(move.start) + "-" + cell_name(move.target)
    if len(move.taken) > 0:
        text += "x" + ",".join([cell_name(cell) for cell in move.taken])
    if move.over > 0:
        text += "#" + str(move.over)
    return as_bytes(text)


def shared_length(line, other):
    many = 0
    while many < min(len(line), len(other)) and line[many] == other[many]:
        many += 1
    return many


def read_move(rules, position, given):
    # One line may begin another (a2-a1, a2-a10), so each is looked at to its end.
    furthest = 0
    for move in moves_of(rules, position):
        line = write_move(move)
        if line == given:
            return move
        furthest = max(furthest, shared_length(line, given))
    raise NotAMoveLine(furthest)
