"""Rules' texts: what the grammar tells, a text's fault, and what a right text says."""

from kinghalldesk.cells import CELLS, EXIT, HUNTER, KING, NOBODY, SEAT, WALL
from kinghalldesk.cells import Position, cells_downward, king_cell, may_stand, ways_of
from kinghalldesk.reader import Reader, Stuck
from kinghalldesk.texts import DIGITS

LETTERS = "ABCDEFGHIJKLMNOPQRSTUVWXYZabcdefghijklmnopqrstuvwxyz"
LONGEST_NAME = 16
HIGHEST_LIMIT = 60000

# A word's place in its choice is the number that the rules keep for it.
ENMITIES = ("quiet", "hunters", "men", "all")


class RulesFault(ValueError):
    def __init__(self, kind, place):
        self.kind = kind
        self.place = place


class RulesDraft:
    # What the grammar alone tells, with the places that the faults behind it need.
    def __init__(self, reader):
        reader.expect("tafl ")
        skip_name(reader)
        reader.expect(" ")
        self.wide = read_size(reader)
        reader.expect(" ")
        self.high = read_size(reader)
        reader.expect("\nground\n")
        self.ground = read_rows(reader, self.wide, self.high, ".SX#")
        reader.expect("start\n")
        self.start = read_rows(reader, self.wide, self.high, ".hmK")
        reader.expect("first ")
        self.first = reader.one_word(("hunters", "king"))
        reader.expect("\nking ")
        self.slides = reader.one_word(("steps", "slides"))
        reader.expect(" ")
        self.armed = reader.one_word(("bare", "armed"))
        reader.expect(" ")
        self.four = reader.one_word(("two", "four"))
        reader.expect("\nseat ")
        self.passed = reader.one_word(("barred", "passed"))
        reader.expect(" ")
        self.seat = reader.one_word(ENMITIES)
        reader.expect("\nexits ")
        self.exits = reader.one_word(ENMITIES)
        reader.expect("\ngoal ")
        self.goal_place = reader.place
        self.goal = reader.one_word(("edge", "exits"))
        reader.expect("\nthrice ")
        self.thrice = reader.one_word(("drawn", "hunters", "king"))
        reader.expect("\nlimit ")
        self.limit = read_limit(reader)
        reader.expect("\n")
        reader.expect_end()
        self.end_place = reader.place


class Rules:
    def __init__(self, draft):
        self.wide = draft.wide
        self.high = draft.high
        self.slides = draft.slides
        self.armed = draft.armed
        self.four = draft.four
        self.passed = draft.passed
        self.seat = draft.seat
        self.exits = draft.exits
        self.goal = draft.goal
        self.thrice = draft.thrice
        self.limit = draft.limit
        self.cells = sorted(cells_downward(draft.wide, draft.high))
        self.ways = ways_of(draft.wide, draft.high)
        self.ground = laid_out(draft, draft.ground, WALL)
        self.start = Position(laid_out(draft, draft.start, NOBODY), draft.first)

    def on_edge(self, cell):
        return any([way[cell] < 0 for way in self.ways])


def skip_name(reader):
    reader.one_sign(LETTERS)
    told = 1
    while told < LONGEST_NAME and reader.sees_any(LETTERS + DIGITS):
        reader.one_sign(LETTERS + DIGITS)
        told += 1


def read_size(reader):
    if reader.sees("1"):
        reader.expect("1")
        return 10 + reader.one_sign("0123")
    return 5 + reader.one_sign("56789")


def read_limit(reader):
    limit = 1 + reader.one_sign("123456789")
    # A digit that would make it too great is left standing: the line's end is missed there.
    while reader.sees_any(DIGITS[:max(0, min(10, HIGHEST_LIMIT - 10 * limit + 1))]):
        limit = 10 * limit + reader.one_sign(DIGITS)
    return limit


def read_rows(reader, wide, high, signs):
    told = []
    for row in range(high):
        for x in range(wide):
            place = reader.place
            told.append((place, reader.one_sign(signs)))
        reader.expect("\n")
    return told


def laid_out(draft, told, elsewhere):
    laid = [elsewhere for cell in range(CELLS)]
    for cell, sign in zip(cells_downward(draft.wide, draft.high), told):
        laid[cell] = sign[1]
    return laid


def check_ground(draft):
    seats = 0
    for place, kind in draft.ground:
        if kind == SEAT:
            seats += 1
        if seats > 1:
            raise RulesFault(2, place)


def check_start(draft):
    kings = 0
    for spot, sign in zip(draft.ground, draft.start):
        kind = spot[1]
        piece = sign[1]
        # A king may come to an exit, but he may not begin there.
        if not may_stand(kind, piece) or (piece == KING and kind == EXIT):
            raise RulesFault(3, sign[0])
        if piece == KING:
            kings += 1
        if kings > 1:
            raise RulesFault(4, sign[0])


def holds(told, sought):
    return any([sign[1] == sought for sign in told])


def check_goal(draft, rules):
    if draft.goal == 1:
        wrong = not holds(draft.ground, EXIT)
    else:
        king = king_cell(rules.start.pieces)
        wrong = king >= 0 and rules.on_edge(king)
    if wrong:
        raise RulesFault(5, draft.goal_place)


def check_all_there(draft):
    needs_seat = draft.passed == 0 or draft.seat != 0
    if not holds(draft.start, KING) or not holds(draft.start, HUNTER):
        raise RulesFault(6, draft.end_place)
    if needs_seat and not holds(draft.ground, SEAT):
        raise RulesFault(6, draft.end_place)


def read_draft(text):
    try:
        return RulesDraft(Reader(text))
    except Stuck as stuck:
        raise RulesFault(1, stuck.place)


def read_rules(text):
    draft = read_draft(text)
    rules = Rules(draft)
    # The checks stand in the order of their places, so the first that fails is the fault.
    check_ground(draft)
    check_start(draft)
    check_goal(draft, rules)
    check_all_there(draft)
    return rules
