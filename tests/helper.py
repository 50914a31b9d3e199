"""What the tests share: halls' texts, calls handed in by name, answers split by call."""

from kinghalldesk.board import answers

NUMBERS = {"rules": 0, "begin": 1, "over": 2, "moves": 3}

WORDS = {
    "first": "hunters",
    "king": "slides armed two",
    "seat": "passed quiet",
    "exits": "quiet",
    "goal": "edge",
    "thrice": "drawn",
    "limit": "100",
}


def hall(ground, start, name="Hall", size=None, **words):
    """A rules' text; ground and start are rows between blanks, the uppermost first."""
    ground = ground.split()
    start = start.split()
    wide, high = size or (len(ground[0]), len(ground))
    told = [f"tafl {name} {wide} {high}", "ground"] + ground + ["start"] + start
    for key, usual in WORDS.items():
        told.append(f"{key} {words.pop(key, usual)}")
    assert not words, words
    return "\n".join(told) + "\n"


def plain_hall(wide=5, high=5, **words):
    """No seat, no exit, no wall; a king in the middle and a hunter in a corner below."""
    ground = ["." * wide] * high
    start = [list("." * wide) for _ in range(high)]
    start[high // 2][wide // 2] = "K"
    start[high - 1][0] = "h"
    return hall(" ".join(ground), " ".join("".join(row) for row in start), **words)


def row_of(text):
    numbers = list(text.encode("latin-1")) if isinstance(text, str) else list(text)
    return [len(numbers)] + numbers


def handed_in(calls):
    numbers = []
    for call in calls:
        numbers.append(NUMBERS[call[0]])
        for text in call[1:]:
            numbers += row_of(text)
    return numbers


def split_answers(told):
    split = []
    place = 0
    while place < len(told):
        many = told[place]
        split.append(told[place + 1:place + 1 + many])
        assert len(split[-1]) == many, "an answer is shorter than its count"
        place += 1 + many
    return split


def run(*calls):
    told = split_answers(answers(handed_in(calls)))
    assert len(told) == len(calls), "not every call has its answer"
    return told


def rules(text):
    return run(("rules", text))[0]


def after_rules(text, *call):
    first, second = run(("rules", text), call)
    assert first == [0], f"the test's own rules are at fault: {first}"
    return second


def over(text, line):
    return after_rules(text, "over", line)


def moves(text, line):
    """The rows of moves, checked against the counts before them."""
    told = after_rules(text, "moves", line)
    assert told[0] == 0, told
    rows = []
    place = 2
    for _ in range(told[1]):
        many = told[place]
        rows.append(told[place + 1:place + 1 + many])
        place += 1 + many
    assert place == len(told), "more is answered than the rows' counts tell"
    return rows


def begin(text):
    told = after_rules(text, "begin")
    assert told[0] == 0 and told[1] == len(told) - 2, told
    return bytes(told[2:]).decode("ascii")


def cell(name):
    return 13 * (int(name[1:]) - 1) + "abcdefghijklm".index(name[0])


def cells(names):
    return [cell(name) for name in names.split()]


def line_at(wide, high, turn, h="", m="", K=""):
    """A position's line from the names of the cells that have hunters, men and the king."""
    signs = {}
    for sign, names in (("h", h), ("m", m), ("K", K)):
        for number in cells(names):
            assert number not in signs, "two pieces on one cell"
            signs[number] = sign
    rows = []
    for y in reversed(range(high)):
        told = ""
        free = 0
        for x in range(wide):
            sign = signs.pop(13 * y + x, None)
            if sign is None:
                free += 1
                continue
            told += (str(free) if free else "") + sign
            free = 0
        rows.append(told + (str(free) if free else ""))
    assert not signs, "a piece beside the ground"
    return "/".join(rows) + " " + turn
