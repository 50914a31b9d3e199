"""The document's words told once more, plainly and slowly, and halls and positions by dice."""

from tests.helper import hall

ENMITIES = ("quiet", "hunters", "men", "all")
WAYS = ((0, 1), (1, 0), (0, -1), (-1, 0))
SIDE = {"h": "h", "m": "k", "K": "k"}


class Words:
    """Rules and a position as dicts from (x, y), walked sentence by sentence."""

    def __init__(self, ground, words):
        rows = ground.split()
        self.wide, self.high = len(rows[0]), len(rows)
        self.ground = {(x, self.high - 1 - r): sign for r, row in enumerate(rows) for x, sign in enumerate(row)}
        self.words = words

    def free(self, pieces, c):
        return c in self.ground and self.ground[c] != "#" and c not in pieces

    def may_move(self, pieces, a, b):
        if a == b or (a[0] != b[0] and a[1] != b[1]):
            return False
        piece = pieces[a]
        far = max(abs(a[0] - b[0]), abs(a[1] - b[1]))
        step = ((b[0] - a[0]) // far, (b[1] - a[1]) // far)
        way = [(a[0] + k * step[0], a[1] + k * step[1]) for k in range(1, far + 1)]
        if not all(self.free(pieces, c) for c in way):
            return False
        if piece == "K":
            return self.words["king"].startswith("slides") or far == 1
        if self.ground[b] in "SX" or any(self.ground[c] == "X" for c in way):
            return False
        return self.words["seat"].startswith("passed") or not any(self.ground[c] == "S" for c in way)

    def geometric(self, pieces, turn):
        own = [c for c in pieces if SIDE[pieces[c]] == turn]
        return [(a, b) for a in own for b in self.ground if self.may_move(pieces, a, b)]

    def against(self, pieces, c, piece):
        if self.ground[c] == "S" and c not in pieces:
            enmity = self.words["seat"].split()[1]
        elif self.ground[c] == "X":
            enmity = self.words["exits"]
        else:
            return False
        return enmity == "all" or enmity == ("hunters" if piece == "h" else "men")

    def taken(self, pieces, c):
        armed = "armed" in self.words["king"]
        mover = pieces[c]
        found = set()
        for dx, dy in WAYS:
            n = (c[0] + dx, c[1] + dy)
            behind = (n[0] + dx, n[1] + dy)
            who = pieces.get(n)
            if who in ("h", "m") and SIDE[who] != SIDE[mover] and not (mover == "K" and not armed):
                if behind in self.ground:
                    other = pieces.get(behind)
                    if other and SIDE[other] == SIDE[mover] and (other != "K" or armed):
                        found.add(n)
                    if self.against(pieces, behind, who):
                        found.add(n)
            if who == "K" and mover == "h":
                if self.words["king"].endswith("two"):
                    held = [behind] if behind in self.ground else []
                    enough = 1
                else:
                    held = [(n[0] + ex, n[1] + ey) for ex, ey in WAYS if (n[0] + ex, n[1] + ey) in self.ground]
                    enough = 4
                if len(held) == enough and all(pieces.get(d) == "h" or self.against(pieces, d, "K") for d in held):
                    found.add(n)
        return found

    def over(self, pieces, turn):
        kings = [c for c in pieces if pieces[c] == "K"]
        if not kings:
            return 1
        x, y = kings[0]
        if self.words["goal"] == "edge" and (x in (0, self.wide - 1) or y in (0, self.high - 1)):
            return 2
        if self.words["goal"] == "exits" and self.ground[(x, y)] == "X":
            return 2
        return 0 if self.geometric(pieces, turn) else 3

    def played(self, pieces, turn, a, b):
        """What a move comes to: the pieces, whose turn it is, and the row that tells the move."""
        after = dict(pieces)
        after[b] = after.pop(a)
        gone = self.taken(after, b)
        after = {c: sign for c, sign in after.items() if c not in gone}
        turn = "k" if turn == "h" else "h"
        row = [13 * a[1] + a[0], 13 * b[1] + b[0], self.over(after, turn)] + sorted(13 * c[1] + c[0] for c in gone)
        return after, turn, row

    def all_played(self, pieces, turn):
        if self.over(pieces, turn) in (1, 2):
            return []
        ends = [self.played(pieces, turn, a, b) for a, b in self.geometric(pieces, turn)]
        return sorted(ends, key=lambda end: end[2])

    def moves(self, pieces, turn):
        return [row for after, then, row in self.all_played(pieces, turn)]

    def deep(self, pieces, turn, n):
        """How many rows of just 1 to just n moves: the moves, and the sum over them of one less."""
        ends = self.all_played(pieces, turn)
        counts = [len(ends)] + [0] * (n - 1)
        for after, then, row in ends:
            if n > 1 and row[2] == 0:
                counts = [x + y for x, y in zip(counts, [0] + self.deep(after, then, n - 1))]
        return counts

    def move_line(self, row):
        names = ["abcdefghijklm"[number % 13] + f"{number // 13 + 1}" for number in row[:2] + row[3:]]
        taken = "x" + ",".join(names[2:]) if names[2:] else ""
        return f"{names[0]}-{names[1]}{taken}" + (f"#{row[2]}" if row[2] else "")

    def line(self, pieces, turn):
        rows = []
        for y in reversed(range(self.high)):
            signs = "".join(pieces.get((x, y), ".") for x in range(self.wide))
            for many in range(13, 0, -1):
                signs = signs.replace("." * many, f"{many}")
            rows.append(signs)
        return "/".join(rows) + " " + turn


def some_hall(dice):
    """Rules that are right: the start is a king in a place that any ground allows, and a hunter."""
    wide, high = dice.choice(((5, 5), (5, 7), (7, 5), (7, 7), (6, 8), (13, 5), (5, 13), (9, 9)))
    signs = [dice.choices(".X#", weights=(12, dice.choice((0, 1, 2)), 1))[0] for _ in range(wide * high)]
    seat = dice.randrange(wide * high)
    signs[seat] = "S"
    inner = [y * wide + x for y in range(1, high - 1) for x in range(1, wide - 1) if y * wide + x != seat]
    king, hunter, exit_at = dice.sample(inner, 3)
    signs[king] = signs[hunter] = "."
    words = {
        "first": "king",
        "king": " ".join((dice.choice(("slides", "steps")), dice.choice(("armed", "bare")), dice.choice(("two", "four")))),
        "seat": dice.choice(("passed", "barred")) + " " + dice.choice(ENMITIES),
        "exits": dice.choice(ENMITIES),
        "goal": dice.choice(("edge", "exits")),
    }
    if words["goal"] == "exits" and "X" not in signs:
        signs[exit_at] = "X"
    start = ["."] * (wide * high)
    start[king], start[hunter] = "K", "h"

    def rows(told):
        return " ".join("".join(told[y * wide:(y + 1) * wide]) for y in range(high))
    ground = rows(signs)
    return hall(ground, rows(start), **words), Words(ground, words)


def some_pieces(dice, told):
    crowd = dice.choice((0.05, 0.2, 0.4, 0.6, 0.95))
    pieces = {}
    for c, sign in told.ground.items():
        if sign == "." and dice.random() < crowd:
            pieces[c] = dice.choice("hhm")
    spots = [c for c, sign in told.ground.items() if sign != "#"]
    inner = [c for c in spots if 0 < c[0] < told.wide - 1 and 0 < c[1] < told.high - 1]
    if dice.random() < 0.95:
        pieces[dice.choice(inner if dice.random() < 0.8 else spots)] = "K"
    return pieces
