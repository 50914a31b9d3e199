"""Call 7: how many rows of just 1, just 2 and more moves there are from a position on."""

import unittest
from unittest import mock

from kinghalldesk.moving import Move
from tests.helper import (HIGHEST, after_rules, at, cornered, hall, line_at, listed, made, many_after_rules, moves,
                          open_hall, over, plain_hall, run, with_middle)

# Two rooms between walls: the hunter goes to and fro in one, the king in the other.
TO_AND_FRO = hall("..... ##### ..... ##### ..#.X", "..... ..... ..K.. ..... h....", goal="exits")
# Rooms of three cells, so that each side has one or two moves.
ROOMS = hall("...#. ##### #...# ##### ...#X", "..... ..... ..K.. ..... h....", goal="exits", king="steps bare two")
# The king may come out, be taken or be shut in: rows of moves end in all three ways.
ENDS = hall("##X## #...# #...# ##.## ##.##", "..... ..... ..K.. ..h.. .....", goal="exits", king="steps armed two")

COLUMNS = "abcdefghijklm"
POSITIONS = (
    (ROOMS, "5/5/1K3/5/h4 h"), (ROOMS, "5/5/1K3/5/1h3 k"), (ROOMS, "5/5/1Km2/5/h4 h"), (ROOMS, "1m3/5/1K3/5/hh3 k"),
    (ENDS, "5/5/2K2/2h2/5 h"), (ENDS, "5/1h3/2K2/5/2h2 h"), (ENDS, "5/1h3/2K2/5/2h2 k"), (ENDS, "5/1h1h1/2K2/2h2/5 k"),
    (ENDS, "5/1hKh1/1m3/2h2/5 h"), (ENDS, "5/1hKm1/1m3/2h2/5 k"), (ENDS, "5/1h3/2Kh1/5/5 h"), (ENDS, "5/5/2h2/5/2K2 h"),
)


def deep(text, line, n, most=2000):
    return after_rules(text, "deep", n, most, line)


def made_from(text, lines):
    """The lines that all moves of these positions come to and that aren't over, and how many moves there are."""
    onward = []
    count = 0
    for line, rows in [(line, moves(text, line)) for line in lines]:
        count += len(rows)
        for answer in many_after_rules(text, [("make", row[0], row[1], line) for row in rows]):
            told, after, _ = made(answer)
            if told == 0:
                onward.append(after)
    return count, onward


def counted_by_make(text, line, n):
    counts = []
    lines = [line]
    for _ in range(n):
        count, lines = made_from(text, lines)
        counts.append(count)
    return counts


class Counts(unittest.TestCase):
    def test_the_whole_answer_as_numbers(self):
        text = hall("..### ##### ..### ##### ####X", "h.... ..... K.... ..... .....", goal="exits")
        for n in range(1, 7):
            self.assertEqual(deep(text, "h4/5/K4/5/5 h", n), [0, n] + [1] * n)
            self.assertEqual(deep(text, "h4/5/K4/5/5 k", n), [0, n] + [1] * n)

    def test_told_by_hand(self):
        # In a room of three, from its end: a hunter has 2 moves, always; the king who steps has 1, then 2, then 1.
        self.assertEqual(listed(deep(ROOMS, "5/5/1K3/5/h4 h", 6)), [2, 2, 4, 8, 16, 16])
        self.assertEqual(listed(deep(ROOMS, "5/5/1K3/5/h4 k", 6)), [1, 2, 4, 8, 8, 16])
        self.assertEqual(listed(deep(ROOMS, "5/5/2K2/5/h4 k", 4)), [2, 4, 4, 8])

    def test_against_a_count_that_makes_every_row(self):
        for text, line in POSITIONS:
            counts = counted_by_make(text, line, 6)
            for n in range(1, 7):
                self.assertEqual(deep(text, line, n), [0, n] + counts[:n], line)

    def test_the_sum_over_the_moves_of_one_less(self):
        for text, line in POSITIONS:
            counts = listed(deep(text, line, 6))
            rows = moves(text, line)
            told = many_after_rules(text, [("make", row[0], row[1], line) for row in rows])
            lines = [made(answer)[1] for answer in told]
            less = [listed(answer) for answer in many_after_rules(text, [("deep", 5, 2000, after) for after in lines])]
            self.assertEqual(counts, [len(rows)] + [sum(column) for column in zip(*less)], line)

    def test_the_first_number_is_how_many_moves_there_are(self):
        for text, line in ((open_hall(), at("h", h="d1 b4 f4 d6", m="c4 d5", K="e4")), (cornered(), at("k", h="b2"))):
            self.assertEqual(deep(text, line, 1), [0, 1, len(moves(text, line))])


class Ends(unittest.TestCase):
    def test_1_the_king_is_taken_by_every_move(self):
        # The hunter's one way leads beside the king, with another behind him.
        text = hall("##### #..## ..... ##### ....X", "..... .h... ..K.. ..... .....", goal="exits")
        line = "5/5/h1Khh/5/5 h"
        self.assertEqual([row[2:] for row in moves(text, line)], [[1, 28]])
        for n in range(1, 7):
            self.assertEqual(deep(text, line, n), [0, n, 1] + [0] * (n - 1))

    def test_2_the_king_comes_to_the_goal_by_every_move(self):
        text = hall("##### ##### #X.X# ##### .....", "..... ..... ..K.. ..... h....", goal="exits", king="steps bare four")
        line = "5/5/2K2/5/h4 k"
        self.assertEqual([row[2] for row in moves(text, line)], [2, 2])
        for n in range(1, 7):
            self.assertEqual(deep(text, line, n), [0, n, 2] + [0] * (n - 1))

    def test_3_the_other_side_is_shut_in_by_every_move(self):
        # The king is shut in by the wall and the hunter, who may only come nearer.
        text = hall("##### ##### ....# ##### ....X", "..... ..... ..K.. ..... h....", goal="exits")
        line = "5/5/Km1h1/5/5 h"
        self.assertEqual([row[2:] for row in moves(text, line)], [[3]])
        for n in range(1, 7):
            self.assertEqual(deep(text, line, n), [0, n, 1] + [0] * (n - 1))

    def test_some_rows_end_and_some_go_on(self):
        seen = set()
        for text, line in POSITIONS:
            rows = moves(text, line)
            seen.update(row[2] for row in rows)
            gone_on = [row for row in rows if row[2] == 0]
            told = many_after_rules(text, [("make", row[0], row[1], line) for row in gone_on])
            second = sum(len(moves(text, made(answer)[1])) for answer in told)
            self.assertEqual(listed(deep(text, line, 2)), [len(rows), second])
        self.assertEqual(seen, {0, 1, 2, 3})

    def test_no_moves(self):
        walled = with_middle("#", king="slides armed four")
        for told, text, line in ((1, open_hall(), at("h", h="b4", K="")), (2, open_hall(), at("k", h="b4", K="a5")),
                                 (2, cornered(), at("k", h="b4", K="g7")), (3, open_hall(), at("h", m="c3")),
                                 (3, open_hall(), at("h", h="a7", m="a6 b7")),
                                 (3, walled, at("k", h="c5 c3 b4", K="c4"))):
            self.assertEqual(over(text, line), [told])
            for n in range(1, 7):
                for most in (1, 2000):
                    self.assertEqual(deep(text, line, n, most), [0, n] + [0] * n)


class Most(unittest.TestCase):
    def test_met_exactly_and_passed_by_one(self):
        for text, line in POSITIONS:
            for n in range(1, 7):
                counts = listed(deep(text, line, n))
                total = sum(counts)
                self.assertEqual(deep(text, line, n, total), [0, n] + counts, (line, n))
                self.assertEqual(deep(text, line, n, total + 1), [0, n] + counts, (line, n))
                if total > 1:
                    self.assertEqual(deep(text, line, n, total - 1), [-9], (line, n))

    def test_met_and_passed_by_the_moves_alone(self):
        line = at("h", h="d4", K="f6")
        self.assertEqual(len(moves(open_hall(), line)), 12)
        self.assertEqual(deep(open_hall(), line, 1, 12), [0, 1, 12])
        self.assertEqual(deep(open_hall(), line, 1, 13), [0, 1, 12])
        for n in (1, 2, 6):
            self.assertEqual(deep(open_hall(), line, n, 11), [-9])
            self.assertEqual(deep(open_hall(), line, n, 1), [-9])

    def test_the_numbers_together_count_not_the_last(self):
        self.assertEqual(listed(deep(ROOMS, "5/5/1K3/5/h4 h", 6, 48)), [2, 2, 4, 8, 16, 16])
        self.assertEqual(deep(ROOMS, "5/5/1K3/5/h4 h", 6, 47), [-9])
        self.assertEqual(deep(ROOMS, "5/5/1K3/5/h4 h", 6, 16), [-9])

    def test_2000_met_exactly_and_passed_by_one(self):
        text = plain_hall(9, 9)
        met = "1h7/h8/6Kh1/9/9/7h1/2h6/1h7/m6h1 k"
        self.assertEqual(counted_by_make(text, met, 2), [26, 1974])
        self.assertEqual(deep(text, met, 2, 2000), [0, 2, 26, 1974])
        self.assertEqual(deep(text, met, 2, 1999), [-9])
        passed = "1h6h/2K6/5hh2/9/9/4h3h/2m6/9/9 h"
        self.assertEqual(sum(counted_by_make(text, passed, 2)), 2001)
        self.assertEqual(deep(text, passed, 2, 2000), [-9])

    def test_many_moves_and_six_of_them_are_answered(self):
        for wide, high in ((13, 13), (13, 5), (9, 9)):
            text = plain_hall(wide, high)
            king = f"{COLUMNS[wide // 2]}{high // 2 + 1}"
            spots = [f"{COLUMNS[x]}{y + 1}" for x in range(wide) for y in range(high) if (x + 2 * y) % 5 == 0]
            hunters = " ".join(name for name in spots if name != king)
            for turn in "hk":
                line = line_at(wide, high, turn, h=hunters, K=king)
                self.assertEqual(deep(text, line, 6, 2000), [-9])
                self.assertEqual(deep(text, line, 6, 1), [-9])


    def test_no_more_is_made_than_is_needed_to_refuse(self):
        line = at("h", h="d4 b2 e1", m="a3", K="f6")
        rows = len(moves(open_hall(), line))
        first = many_after_rules(open_hall(), [("make", *moves(open_hall(), line)[0][:2], line)])[0]
        second = len(moves(open_hall(), made(first)[1]))
        for most, needed in ((1, 0), (rows - 1, 0), (rows, 1), (rows + second - 1, 1), (rows + second, 2)):
            with mock.patch("kinghalldesk.counting.Move", side_effect=Move) as watched:
                self.assertEqual(deep(open_hall(), line, 6, most), [-9])
            self.assertEqual(watched.call_count, needed, most)


class OutOfBounds(unittest.TestCase):
    few = (TO_AND_FRO, "5/5/2K2/5/h4 h")
    many = (open_hall(), at("h", h="d4 b2 e1", m="a3", K="f6"))

    def test_n(self):
        for text, line in (self.few, self.many):
            for n in (0, 7, 8, 100, 256, 257, 65537, HIGHEST - 1, HIGHEST):
                for most in (1, 3, 2000):
                    self.assertEqual(deep(text, line, n, most), [-1], (n, most))

    def test_most(self):
        for text, line in (self.few, self.many):
            for most in (0, 2001, 2002, 4000, 65536, HIGHEST - 1, HIGHEST):
                for n in (1, 2, 6):
                    self.assertEqual(deep(text, line, n, most), [-1], (n, most))

    def test_both(self):
        for n in (0, 7, HIGHEST):
            for most in (0, 2001, HIGHEST):
                self.assertEqual(deep(*self.few, n, most), [-1])

    def test_at_the_bounds(self):
        text, line = self.few
        self.assertEqual(deep(text, line, 1, 2000), [0, 1, 1])
        self.assertEqual(deep(text, line, 1, 1), [0, 1, 1])
        self.assertEqual(deep(text, line, 2, 1), [-9])
        self.assertEqual(deep(ROOMS, "5/5/1K3/5/h4 h", 6, 2000)[:2], [0, 6])
        self.assertEqual(deep(ROOMS, "5/5/1K3/5/h4 k", 1, 1), [0, 1, 1])

    def test_before_9_and_behind_3_and_5(self):
        text, line = self.many
        self.assertEqual(deep(text, line, 6, 2000), [-9])
        self.assertEqual(deep(text, line, 7, 2000), [-1])
        self.assertEqual(deep(text, line, 6, 0), [-1])
        for n, most in ((0, 0), (7, 2001), (1, 1), (HIGHEST, HIGHEST)):
            self.assertEqual(deep(text, "7/7", n, most), [-5, 1, 3])
            self.assertEqual(deep(with_middle("#"), at("h", h="d4"), n, most)[:2], [-5, 2])
            self.assertEqual(run(("deep", n, most, line), ("deep", n, most, "?")), [[-3], [-3]])

    def test_of_a_position_without_moves_too(self):
        line = at("h", h="b4", K="")
        for n, most in ((0, 1), (7, 1), (1, 0), (6, 2001), (HIGHEST, HIGHEST)):
            self.assertEqual(deep(open_hall(), line, n, most), [-1])


if __name__ == "__main__":
    unittest.main()
