"""Over, moves, make, write, read and deep of many positions, against the document's words told once more."""

import random
import re
import unittest

from tests.helper import after_rules, listed, made, many_after_rules, moves, run, written
from tests.words import some_hall, some_pieces


class ManyPositions(unittest.TestCase):
    def test_over_and_moves(self):
        dice = random.Random(7)
        seen = {"over": set(), "taken": set(), "by": set()}
        for _ in range(160):
            text, told = some_hall(dice)
            spots = [(some_pieces(dice, told), dice.choice("hk")) for _ in range(5)]
            calls = [("rules", text)]
            for pieces, turn in spots:
                line = told.line(pieces, turn)
                calls += [("over", line), ("moves", line)]
            answers = run(*calls)
            self.assertEqual(answers[0], [0], text)
            for k, (pieces, turn) in enumerate(spots):
                note = text + told.line(pieces, turn)
                self.assertEqual(answers[2 * k + 1], [told.over(pieces, turn)], note)
                rows = told.moves(pieces, turn)
                flat = [number for row in rows for number in [len(row)] + row]
                self.assertEqual(answers[2 * k + 2], [0, len(rows)] + flat, note)
                seen["over"].add(answers[2 * k + 1][0])
                seen["by"].update(row[2] for row in rows)
                seen["taken"].update(len(row) - 3 for row in rows)
        # The positions are worth their time only if they come to everything.
        self.assertEqual(seen["over"], {0, 1, 2, 3})
        self.assertEqual(seen["by"], {0, 1, 2, 3})
        self.assertLessEqual({0, 1, 2}, seen["taken"])

    def test_make_write_and_read(self):
        dice = random.Random(11)
        seen = set()
        for _ in range(60):
            text, told = some_hall(dice)
            for _ in range(2):
                pieces, turn = some_pieces(dice, told), dice.choice("hk")
                line = told.line(pieces, turn)
                ends = told.all_played(pieces, turn)
                # The moves that take or end something are few: all of these, and some of the others.
                ends = [end for end in ends if end[2][2:] != [0]] + [end for end in ends if end[2][2:] == [0]][::9]
                calls = []
                for after, then, row in ends:
                    calls += [("make", row[0], row[1], line), ("over", told.line(after, then)),
                              ("write", row[0], row[1], line), ("read", line, told.move_line(row))]
                answers = many_after_rules(text, calls)
                for k, (after, then, row) in enumerate(ends):
                    note = (text, line, row)
                    self.assertEqual(made(answers[4 * k]), (row[2], told.line(after, then), row[3:]), note)
                    self.assertEqual(answers[4 * k + 1], [row[2]], note)
                    self.assertEqual(written(answers[4 * k + 2]), told.move_line(row), note)
                    self.assertEqual(listed(answers[4 * k + 3]), row, note)
                    seen.add((row[2], min(len(row) - 3, 2)))
        self.assertLessEqual({(0, 0), (0, 1), (0, 2), (1, 1), (2, 0), (3, 0)}, seen)

    def test_what_is_gone_and_what_stays(self):
        dice = random.Random(13)
        for _ in range(40):
            text, told = some_hall(dice)
            pieces, turn = some_pieces(dice, told), dice.choice("hk")
            line = told.line(pieces, turn)
            rows = moves(text, line)
            answers = many_after_rules(text, [("make", row[0], row[1], line) for row in rows])
            before, _ = pieces_of(line)
            for row, answer in zip(rows, answers):
                _, then, taken = made(answer)
                after, whose = pieces_of(then)
                expected = {number: sign for number, sign in before.items() if number not in [row[0]] + taken}
                expected[row[1]] = before[row[0]]
                self.assertEqual((after, whose), (expected, "k" if turn == "h" else "h"), (text, line, row))
                self.assertEqual(taken, row[3:])
                for number, sign in after.items():
                    kind = told.ground[(number % 13, number // 13)]
                    self.assertTrue(kind == "." or (sign == "K" and kind in "SX"), (text, line, row))

    def test_deep(self):
        dice = random.Random(17)
        lengths = set()
        for _ in range(120):
            text, told = some_hall(dice)
            pieces, turn = some_pieces(dice, told), dice.choice("hk")
            line = told.line(pieces, turn)
            n = 2 if 0 < len(told.moves(pieces, turn)) <= 8 else 1
            counts = told.deep(pieces, turn, n)
            lengths.add(n)
            self.assertEqual(after_rules(text, "deep", n, 2000, line), [0, n] + counts, (text, line))
            total = sum(counts)
            if total > 1:
                self.assertEqual(after_rules(text, "deep", n, total, line), [0, n] + counts, (text, line))
                self.assertEqual(after_rules(text, "deep", n, total - 1, line), [-9], (text, line))
        self.assertEqual(lengths, {1, 2})


def pieces_of(line):
    """A position's line as its words say it: the pieces by their cells' numbers, and whose turn it is."""
    rows, _, turn = line.partition(" ")
    rows = rows.split("/")
    pieces = {}
    for y, row in enumerate(reversed(rows)):
        x = 0
        for part in re.findall("[0-9]+|[hmK]", row):
            if part.isdigit():
                x += int(part)
            else:
                pieces[13 * y + x] = part
                x += 1
    return pieces, turn


if __name__ == "__main__":
    unittest.main()
