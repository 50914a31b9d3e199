"""Where pieces may go, what they take, and when it's over."""

from kinghalldesk.cells import EXIT, HUNTER, KING, NOBODY, PLAIN, SEAT, SIDES, WALL
from kinghalldesk.cells import Position, king_cell, may_stand


class NoSuchMove(ValueError):
    pass


class Move:
    def __init__(self, rules, position, step):
        self.start = step[0]
        self.target = step[1]
        pieces = list(position.pieces)
        pieces[self.target] = pieces[self.start]
        pieces[self.start] = NOBODY
        # All are found before any goes: what stood behind them counts as it stood.
        self.taken = taken_by(rules, pieces, self.target)
        for cell in self.taken:
            pieces[cell] = NOBODY
        self.after = Position(pieces, 1 - position.turn)
        self.over = how_over(rules, self.after)

    def as_row(self):
        return [self.start, self.target, self.over] + self.taken


def goes_over(rules, pieces, piece, cell):
    kind = rules.ground[cell]
    if kind == WALL or pieces[cell] != NOBODY:
        return False
    if piece == KING or kind == PLAIN:
        return True
    return kind == SEAT and rules.passed == 1


def stops_along(rules, pieces, start, way):
    piece = pieces[start]
    stops = []
    cell = way[start]
    while cell >= 0 and goes_over(rules, pieces, piece, cell):
        if may_stand(rules.ground[cell], piece):
            stops.append(cell)
        if piece == KING and rules.slides == 0:
            break
        cell = way[cell]
    return stops


def targets_from(rules, pieces, start):
    targets = []
    for way in rules.ways:
        targets.extend(stops_along(rules, pieces, start, way))
    return sorted(targets)


def cells_of(rules, pieces, turn):
    return [cell for cell in rules.cells if SIDES[pieces[cell]] == turn]


def can_move(rules, pieces, turn):
    for start in cells_of(rules, pieces, turn):
        for way in rules.ways:
            if len(stops_along(rules, pieces, start, way)) > 0:
                return True
    return False


def is_against(rules, pieces, cell, piece):
    enmity = 0
    if rules.ground[cell] == EXIT:
        enmity = rules.exits
    elif rules.ground[cell] == SEAT and pieces[cell] == NOBODY:
        enmity = rules.seat
    # Of an enmity 1 is the hunters' share and 2 the men's, so that all is 3.
    share = 1 if piece == HUNTER else 2
    return (enmity & share) > 0


def helps(rules, piece, side):
    return SIDES[piece] == side and (piece != KING or rules.armed == 1)


def is_held(rules, pieces, cell, victim, side):
    if cell < 0:
        return False
    return helps(rules, pieces[cell], side) or is_against(rules, pieces, cell, victim)


def is_taken(rules, pieces, cell, way, side):
    victim = pieces[cell]
    if victim == KING and rules.four == 1:
        return all([is_held(rules, pieces, near[cell], victim, side) for near in rules.ways])
    return is_held(rules, pieces, way[cell], victim, side)


def taken_by(rules, pieces, target):
    mover = pieces[target]
    side = SIDES[mover]
    if mover == KING and rules.armed == 0:
        return []
    foe = 1 - side
    taken = []
    for way in rules.ways:
        cell = way[target]
        if cell >= 0 and SIDES[pieces[cell]] == foe and is_taken(rules, pieces, cell, way, side):
            taken.append(cell)
    return sorted(taken)


def is_on_goal(rules, king):
    if rules.goal == 1:
        return rules.ground[king] == EXIT
    return rules.on_edge(king)


def over_by_king(rules, position):
    king = king_cell(position.pieces)
    if king < 0:
        return 1
    return 2 if is_on_goal(rules, king) else 0


def how_over(rules, position):
    over = over_by_king(rules, position)
    if over == 0 and not can_move(rules, position.pieces, position.turn):
        return 3
    return over


def steps_of(rules, position):
    # A step is where a move begins and ends, all that tells it from the others.
    steps = []
    if over_by_king(rules, position) > 0:
        return steps
    for start in cells_of(rules, position.pieces, position.turn):
        steps.extend([(start, target) for target in targets_from(rules, position.pieces, start)])
    return steps


def moves_of(rules, position):
    return [Move(rules, position, step) for step in steps_of(rules, position)]


def move_between(rules, position, start, target):
    step = (start, target)
    if step not in steps_of(rules, position):
        raise NoSuchMove()
    return Move(rules, position, step)
