"""Call 6: a move's line read as that move, or the place where no move's line goes on."""

import unittest

from tests.helper import (after_rules, at, cornered, hall, line_at, listed, many_after_rules, moves, open_hall,
                          plain_hall, run, step, with_middle, written)

# Halls and positions whose moves, together, take none, one and several and are over by 1, 2 and 3.
POSITIONS = (
    (open_hall(), at("h", h="d1 b4 f4 d6", m="c4 d5", K="e4")),
    (open_hall(), at("h", h="c1 c6 a4 e4", m="b4 d4 c5")),
    (open_hall(), at("h", h="a4 d4", K="c4")),
    (open_hall(), at("k", h="c4", m="a4 d4")),
    (open_hall(), at("k", h="c4 b5", m="a4 d4 b6")),
    (open_hall(), at("k", h="a7", m="a6 b1", K="c3")),
    (open_hall(king="steps bare four"), at("h", h="f3 b5 c4 a4 b1", m="b2", K="b4")),
    (cornered(), at("k", h="b1 g6", m="c1", K="a4")),
    (with_middle("S", seat="passed all"), at("h", h="a4 g2", m="c4 f2")),
    (plain_hall(5, 13), line_at(5, 13, "h", h="a2 e10 c13", m="b1 d13", K="c7")),
    (plain_hall(13, 13), line_at(13, 13, "k", h="a2", m="j10 a12", K="k11")),
)


def read(text, line, given):
    return after_rules(text, "read", line, given)


def lines_of(text, line):
    """All the position's moves: their lines as write tells them, and their rows."""
    rows = moves(text, line)
    told = many_after_rules(text, [("write", row[0], row[1], line) for row in rows])
    return {written(answer): row for answer, row in zip(told, rows)}


def first_stuck(lines, given):
    """The first place where no line goes on: told by beginnings alone."""
    for place in range(len(given)):
        if not any(line.startswith(given[:place + 1]) for line in lines):
            return place
    return len(given)


class EveryMove(unittest.TestCase):
    def test_what_write_gives_is_read_as_that_moves_row(self):
        seen = set()
        for text, line in POSITIONS:
            known = lines_of(text, line)
            self.assertEqual(len(known), len(moves(text, line)), "two moves have one line")
            told = many_after_rules(text, [("read", line, given) for given in known])
            for answer, row in zip(told, known.values()):
                self.assertEqual(listed(answer), row)
                seen.add((row[2], min(len(row) - 3, 2)))
        self.assertEqual(seen, {(0, 0), (0, 1), (0, 2), (1, 1), (1, 2), (2, 0), (2, 1), (3, 0), (3, 1), (3, 2)})

    def test_the_whole_answer_as_numbers(self):
        self.assertEqual(read(open_hall(), at("h", h="d4"), "d4-d7"), [0, 3, 42, 81, 0])
        self.assertEqual(read(open_hall(), at("h", h="a4 d4", K="c4"), "a4-b4xc4#1"), [0, 4, 39, 40, 1, 41])
        self.assertEqual(read(open_hall(), at("h", h="c1 c6 a4 e4", m="b4 d4 c5"), "c1-c4xb4,d4,c5"),
                         [0, 6, 2, 41, 0, 40, 42, 54])


class Stuck(unittest.TestCase):
    def check_all(self, broken):
        """Each given text that is broken out of a move's line is read, or stuck, as the lines tell."""
        for text, line in POSITIONS:
            known = lines_of(text, line)
            # The longest lines tell most; of the plain ones some are enough.
            picked = sorted(known, key=len)[-6:] + sorted(known)[::8]
            given = sorted({other for told in picked for other in broken(told)})
            answers = many_after_rules(text, [("read", line, other) for other in given])
            for other, answer in zip(given, answers):
                if other in known:
                    self.assertEqual(listed(answer), known[other], (line, other))
                else:
                    self.assertEqual(answer, [-4, first_stuck(known, other)], (line, other))

    def test_cut_off_at_each_place(self):
        self.check_all(lambda told: [told[:place] for place in range(len(told))])

    def test_one_byte_changed_at_each_place(self):
        signs = "\x00 a1d4-x,#39K\xff"
        self.check_all(lambda told: [told[:place] + sign + told[place + 1:] for place in range(len(told))
                                     for sign in signs])

    def test_one_that_goes_on_behind_its_end(self):
        self.check_all(lambda told: [told + more for more in ("0", "1", "x", "#", "#1", "#0", " ", "\n", "\x00", ",", told)])

    def test_one_that_lacks_or_adds_what_it_takes_or_how_it_is_over(self):
        def broken(told):
            names = told.partition("x")[0].partition("#")[0]
            taken = told.partition("#")[0]
            over = told.partition("#")[2]
            return [names, taken, f"{names}#{over}", f"{taken}#1", f"{taken}#2", f"{taken}#3", f"{taken}#0",
                    f"{names}x", f"{names}xa1", f"{taken},a1", names.upper()]
        self.check_all(broken)

    def test_places_told_by_hand(self):
        line = at("h", h="a4 d4", K="c4")
        for given, place in (("", 0), ("a", 1), ("a4", 2), ("a4-", 3), ("a4-b", 4), ("a4-b4", 5), ("a4-b4x", 6),
                             ("a4-b4xc", 7), ("a4-b4xc4", 8), ("a4-b4xc4#", 9), ("a4-b4#1", 5), ("a4-b4xc4#2", 9),
                             ("a4-b4xc4#1 ", 10), ("a4-b4xc5#1", 7), ("a4-b4xc4,d4#1", 8), ("a4-c4", 3), ("b4-a4", 0),
                             ("a4-a8", 4), ("a4-a1#", 5), ("a4xa1", 2), ("A4-a1", 0), ("a4 a1", 2), (" a4-a1", 0),
                             ("d4-c4", 3), ("d4-e5", 4)):
            self.assertEqual(read(open_hall(), line, given), [-4, place], given)

    def test_only_this_sides_moves(self):
        self.assertEqual(read(open_hall(), at("k", h="b5"), "b5-b6"), [-4, 0])
        self.assertEqual(read(open_hall(), at("h", h="b5"), "f6-f5"), [-4, 0])

    def test_empty(self):
        for text, line in POSITIONS:
            self.assertEqual(read(text, line, ""), [-4, 0])

    def test_of_1000_bytes(self):
        line = at("h", h="a4 d4", K="c4")
        for given, place in (("a4-b4xc4#1", 10), ("a4-a1", 5), ("", 0), ("d4-d", 4), ("a4-b4xc4", 8)):
            self.assertEqual(read(open_hall(), line, given + "?" * (1000 - len(given))), [-4, place])
            self.assertEqual(read(open_hall(), line, given + "\x00" * (1000 - len(given))), [-4, place])
        self.assertEqual(read(open_hall(), line, "a4-b4xc4#1" * 100), [-4, 10])

    def test_any_byte(self):
        line = at("h", h="a4 d4", K="c4")
        told = many_after_rules(open_hall(), [("read", line, [byte]) for byte in range(256)])
        self.assertEqual(told, [[-4, 1] if byte in (97, 100) else [-4, 0] for byte in range(256)])


class OneBeginsAnother(unittest.TestCase):
    text = plain_hall(5, 13)

    def at(self, turn="h", h="a2", m="", K="c7"):
        return line_at(5, 13, turn, h=h, m=m, K=K)

    def test_both_are_read(self):
        for given in ("a2-a1", "a2-a10", "a2-a11", "a2-a12", "a2-a13"):
            self.assertEqual(read(self.text, self.at(), given), [0, 3] + step(given) + [0])

    def test_the_shorter_is_no_move(self):
        # At a1 stands another piece: a2-a1 only begins lines.
        line = self.at(h="a2 a1")
        self.assertEqual(read(self.text, line, "a2-a1"), [-4, 5])
        self.assertEqual(read(self.text, line, "a2-a12"), [0, 3, 13, 143, 0])
        self.assertEqual(read(self.text, line, "a2-a14"), [-4, 5])

    def test_the_longer_are_no_moves(self):
        line = self.at(h="a2 a9")
        self.assertEqual(read(self.text, line, "a2-a1"), [0, 3, 13, 0, 0])
        self.assertEqual(read(self.text, line, "a2-a10"), [-4, 5])
        self.assertEqual(read(self.text, line, "a2-a1x"), [-4, 5])

    def test_places_behind_the_shorter(self):
        for given, place in (("a2-a1x", 5), ("a2-a14", 5), ("a2-a100", 6), ("a2-a13#", 6), ("a2-a", 4), ("a2-a1#", 5)):
            self.assertEqual(read(self.text, self.at(), given), [-4, place], given)

    def test_one_takes_and_the_other_does_not(self):
        # a2-a1 takes b1, a2-a10 takes none.
        line = self.at(h="a2 c1", m="b1")
        self.assertEqual(read(self.text, line, "a2-a1xb1"), [0, 4, 13, 0, 0, 1])
        self.assertEqual(read(self.text, line, "a2-a10"), [0, 3, 13, 117, 0])
        self.assertEqual(read(self.text, line, "a2-a1"), [-4, 5])
        self.assertEqual(read(self.text, line, "a2-a10x"), [-4, 6])
        self.assertEqual(read(self.text, line, "a2-a1xb10"), [-4, 8])

    def test_names_of_the_taken_go_on_too(self):
        line = self.at(h="b9 a11", m="a10")
        self.assertEqual(read(self.text, line, "b9-a9xa10"), [0, 4] + step("b9-a9") + [0, 117])
        for given, place in (("b9-a9", 5), ("b9-a9xa1", 8), ("b9-a9xa11", 8), ("b9-a9xa10,a11", 9), ("b9-a9xb1", 6)):
            self.assertEqual(read(self.text, line, given), [-4, place], given)

    def test_the_beginning_cells_names_go_on_too(self):
        line = self.at(h="a1 a10 b2")
        self.assertEqual(read(self.text, line, "a1-a2"), [0, 3, 0, 13, 0])
        self.assertEqual(read(self.text, line, "a10-a2"), [0, 3, 117, 13, 0])
        self.assertEqual(read(self.text, line, "a11-a2"), [-4, 2])
        self.assertEqual(read(self.text, line, "a1"), [-4, 2])


class NoMoves(unittest.TestCase):
    def test_place_0_whatever_is_given(self):
        walled = with_middle("#", king="slides armed four")
        for text, line in ((open_hall(), at("h", h="b4", K="")), (open_hall(), at("k", h="b4", K="a5")),
                           (cornered(), at("k", h="b4", K="g7")), (open_hall(), at("h", m="c3")),
                           (open_hall(), at("h", h="a7", m="a6 b7")), (walled, at("k", h="c5 c3 b4", K="c4"))):
            for given in ("", "b", "b4-b5", "a5-a6", "f6-f5", "x" * 1000):
                self.assertEqual(read(text, line, given), [-4, 0], (line, given))


class RefusalsBefore(unittest.TestCase):
    def test_no_rules_then_the_lines_fault(self):
        text = hall("..... .X... ..... ..... .....", "..... ..... ..K.. ..... h....")
        self.assertEqual(run(("read", "5", "nothing"), ("read", "", "")), [[-3], [-3]])
        told = run(("rules", text), ("read", "5", "?"), ("read", "5/1h3/5/5/5 h", "?"), ("read", "", "a1-a2"),
                   ("read", "5/5/2K2/5/h4 h", "?"), ("read", "5/5/2K2/5/h4 h", "a1-a2"))
        self.assertEqual(told, [[0], [-5, 1, 1], [-5, 2, 3], [-5, 1, 0], [-4, 0], [0, 3, 0, 13, 0]])


if __name__ == "__main__":
    unittest.main()
