"""What the tests share: halls' texts, calls handed in by name, answers split by call."""

from kinghalldesk.board import answers

NUMBERS = {"rules": 0, "begin": 1, "over": 2, "moves": 3, "make": 4, "write": 5, "read": 6, "deep": 7}
HIGHEST = 4294967295

WORDS = {
    "first": "hunters",
    "king": "slides armed two",
    "seat": "passed quiet",
    "exits": "quiet",
    "goal": "edge",
    "thrice": "drawn",
    "limit": "100",
}


def hall(ground, start, name="Hall", size=None, **words):
    """A rules' text; ground and start are rows between blanks, the uppermost first."""
    ground = ground.split()
    start = start.split()
    wide, high = size or (len(ground[0]), len(ground))
    told = [f"tafl {name} {wide} {high}", "ground"] + ground + ["start"] + start
    for key, usual in WORDS.items():
        told.append(f"{key} {words.pop(key, usual)}")
    assert not words, words
    return "\n".join(told) + "\n"


def plain_hall(wide=5, high=5, **words):
    """No seat, no exit, no wall; a king in the middle and a hunter in a corner below."""
    ground = ["." * wide] * high
    start = [list("." * wide) for _ in range(high)]
    start[high // 2][wide // 2] = "K"
    start[high - 1][0] = "h"
    return hall(" ".join(ground), " ".join("".join(row) for row in start), **words)


def row_of(text):
    numbers = list(text.encode("latin-1")) if isinstance(text, str) else list(text)
    return [len(numbers)] + numbers


def handed_in(calls):
    """Calls as they're handed in: a name, then the whole numbers, then the texts."""
    numbers = []
    for call in calls:
        numbers.append(NUMBERS[call[0]])
        for part in call[1:]:
            numbers += [part] if isinstance(part, int) else row_of(part)
    return numbers


def split_answers(told):
    split = []
    place = 0
    while place < len(told):
        many = told[place]
        split.append(told[place + 1:place + 1 + many])
        assert len(split[-1]) == many, "an answer is shorter than its count"
        place += 1 + many
    return split


def run(*calls):
    told = split_answers(answers(handed_in(calls)))
    assert len(told) == len(calls), "not every call has its answer"
    return told


def rules(text):
    return run(("rules", text))[0]


def after_rules(text, *call):
    first, second = run(("rules", text), call)
    assert first == [0], f"the test's own rules are at fault: {first}"
    return second


def many_after_rules(text, calls):
    """Any number of calls, in lists as long as may be handed in."""
    told = []
    for first in range(0, len(calls), 100):
        part = run(("rules", text), *calls[first:first + 100])
        assert part[0] == [0], f"the test's own rules are at fault: {part[0]}"
        told += part[1:]
    return told


def over(text, line):
    return after_rules(text, "over", line)


def text_behind(told, place):
    """The text whose count stands at a place of an answer, and the place behind it."""
    behind = place + 1 + told[place]
    return bytes(told[place + 1:behind]).decode("ascii"), behind


def made(told):
    """An answer of make that's no refusal: over, the line of the position then, the taken."""
    line, place = text_behind(told, 1)
    assert told[place] == len(told) - place - 1, told
    return told[0], line, told[place + 1:]


def written(told):
    """The text of an answer that is 0 and a text."""
    line, place = text_behind(told, 1)
    assert told[0] == 0 and place == len(told), told
    return line


def listed(told):
    """The list of an answer that is 0 and a list."""
    assert told[0] == 0 and told[1] == len(told) - 2, told
    return told[2:]


def moves(text, line):
    """The rows of moves, checked against the counts before them."""
    told = after_rules(text, "moves", line)
    assert told[0] == 0, told
    rows = []
    place = 2
    for _ in range(told[1]):
        many = told[place]
        rows.append(told[place + 1:place + 1 + many])
        place += 1 + many
    assert place == len(told), "more is answered than the rows' counts tell"
    return rows


def begin(text):
    return written(after_rules(text, "begin"))


def cell(name):
    return 13 * (int(name[1:]) - 1) + "abcdefghijklm".index(name[0])


def cells(names):
    return [cell(name) for name in names.split()]


def step(names):
    """The two cells of a move, told as its line begins: d4-d7."""
    return cells(names.replace("-", " "))


def line_at(wide, high, turn, h="", m="", K=""):
    """A position's line from the names of the cells that have hunters, men and the king."""
    signs = {}
    for sign, names in (("h", h), ("m", m), ("K", K)):
        for number in cells(names):
            assert number not in signs, "two pieces on one cell"
            signs[number] = sign
    rows = []
    for y in reversed(range(high)):
        told = ""
        free = 0
        for x in range(wide):
            sign = signs.pop(13 * y + x, None)
            if sign is None:
                free += 1
                continue
            told += (str(free) if free else "") + sign
            free = 0
        rows.append(told + (str(free) if free else ""))
    assert not signs, "a piece beside the ground"
    return "/".join(rows) + " " + turn


def with_middle(middle, **words):
    """A ground of 7 by 7, plain but for d4; the king begins at e5, a hunter at b2."""
    ground = f"....... ....... ....... ...{middle}... ....... ....... ......."
    return hall(ground, "....... ....... ....K.. ....... ....... .h..... .......", **words)


def open_hall(**words):
    return with_middle(".", **words)


def cornered(**words):
    """Exits in the corners and for a goal, so that the edge is a place like others."""
    ground = "X.....X ....... ....... ....... ....... ....... X.....X"
    return hall(ground, "....... ....... ....K.. ....... ....... .h..... .......", goal="exits", **words)


def at(turn, h="", m="", K="f6"):
    return line_at(7, 7, turn, h=h, m=m, K=K)
