"""-2 of make and write: the position has no such move."""

import unittest

from tests.helper import (HIGHEST, at, cells, cornered, hall, line_at, many_after_rules, open_hall, plain_hall, run,
                          step, with_middle)


class NoSuchMove(unittest.TestCase):
    def check(self, text, line, pairs):
        for call in ("make", "write"):
            told = many_after_rules(text, [(call, x, y, line) for x, y in pairs])
            for pair, answer in zip(pairs, told):
                self.assertEqual(answer, [-2], (call, pair))

    def check_names(self, text, line, names):
        self.check(text, line, [step(pair) for pair in names.split()])

    def check_all(self, text, line):
        self.check(text, line, [(x, y) for x in cells("a1 b4 a5 d7 g7 c3 f6 a7 d4") for y in range(85) if x != y])

    def test_cells_without_a_piece(self):
        for turn in "hk":
            self.check_names(open_hall(), at(turn, h="b5", m="e2"), "a1-a2 b4-b3 g7-f7 c5-c6 d4-d3")

    def test_the_other_sides_piece(self):
        self.check_names(open_hall(), at("k", h="b5", m="e2"), "b5-b6 b5-a5")
        self.check_names(open_hall(), at("h", h="b5", m="e2"), "e2-e3 f6-f5 e2-d2 f6-g6")

    def test_cells_that_the_piece_does_not_come_to(self):
        line = at("h", h="b5 b7", m="e5 b3")
        self.check_names(open_hall(), line, "b5-c6 b5-a4 b5-d3 b5-c7 b5-b5 b5-e5 b5-f5 b5-g5 b5-b3 b5-b2 b5-b1 b5-b7")

    def test_a_king_who_steps_goes_no_further(self):
        line = at("k", h="g1", K="c4")
        self.check_names(open_hall(king="steps armed two"), line, "c4-c6 c4-c2 c4-a4 c4-e4 c4-c7 c4-d5 c4-b3")

    def test_walls_the_seat_and_exits(self):
        for line in (at("h", h="b4"), at("k", m="b4", h="g1")):
            self.check_names(with_middle("#"), line, "b4-d4 b4-e4 b4-g4")
            self.check_names(with_middle("X"), line, "b4-d4 b4-e4 b4-g4")
            self.check_names(with_middle("S", seat="barred all"), line, "b4-d4 b4-e4 b4-g4")
            self.check_names(with_middle("S", seat="passed all"), line, "b4-d4")
        self.check_names(with_middle("#"), at("k", h="g1", K="b4"), "b4-d4 b4-e4")

    def test_numbers_off_the_ground(self):
        # On a ground of 7 by 7, 7 to 12 lie right of the lowest row, and 91 on above the uppermost.
        line = at("h", h="g1 a7 g7 a2")
        off = (7, 8, 12, 20, 25, 33, 85, 90, 91, 92, 97, 104, 156, 168, 169, 182, 255, 256, 1000, 65536, HIGHEST)
        known = cells("g1 a7 g7 a2 b5 f6")
        self.check(open_hall(), line, [(x, y) for x in known for y in off])
        self.check(open_hall(), line, [(x, y) for x in off for y in known])
        self.check(open_hall(), line, [(x, y) for x in off for y in off])

    def test_numbers_that_would_be_right_by_some_turning_over(self):
        # g1-g2 is a move here: 6 to 19; none of these numbers stands for it.
        line = at("h", h="g1")
        for great in (1 << 8, 1 << 16, 1 << 31, 169):
            self.check(open_hall(), line, [(6 + great, 19), (6, 19 + great), (6 + great, 19 + great)])
        self.check(open_hall(), line, [(HIGHEST, HIGHEST), (0, HIGHEST), (HIGHEST, 0), (6, HIGHEST), (HIGHEST, 19)])

    def test_off_the_largest_ground(self):
        line = line_at(13, 13, "h", h="m13 a1 m12", K="g7")
        self.check(plain_hall(13, 13), line, [(x, y) for x in (0, 155, 168) for y in (169, 170, 181, HIGHEST)])
        # The number behind a row's last cell is the next row's first, but no neighbour.
        self.check(plain_hall(13, 13), line_at(13, 13, "h", h="m2 a4", K="g7"), [(25, 26), (39, 38)])

    def test_there_and_back_are_not_the_same(self):
        line = at("h", h="b5")
        self.check_names(open_hall(), line, "b6-b5 a5-b5 b1-b5")

    def test_positions_that_are_over_by_1(self):
        for line in (at("h", h="b4 a1", K=""), at("k", m="b4 a1", K=""), at("h", K="")):
            self.check_all(open_hall(), line)

    def test_positions_that_are_over_by_2(self):
        for text, line in ((open_hall(), at("k", h="b4", K="a5")), (open_hall(), at("h", h="b4", K="d7")),
                           (cornered(), at("k", h="b4", K="g7")), (cornered(), at("h", h="b4", K="a1"))):
            self.check_all(text, line)

    def test_positions_that_are_over_by_3(self):
        walled = with_middle("#", king="slides armed four")
        for text, line in ((open_hall(), at("h", m="c3")), (open_hall(), at("h", h="a7", m="a6 b7")),
                           (walled, at("k", h="c5 c3 b4", K="c4"))):
            self.check_all(text, line)

    def test_it_is_told_behind_the_refusals_before_it(self):
        text = hall("..... .X... ..... ..... .....", "..... ..... ..K.. ..... h....")
        for call in ("make", "write"):
            self.assertEqual(run((call, HIGHEST, 0, "5")), [[-3]])
            told = run(("rules", text), (call, HIGHEST, 0, "5"), (call, HIGHEST, 0, "5/1h3/5/5/5 h"),
                       (call, HIGHEST, 0, "5/5/2K2/5/h4 h"))
            self.assertEqual(told, [[0], [-5, 1, 1], [-5, 2, 3], [-2]])


if __name__ == "__main__":
    unittest.main()
