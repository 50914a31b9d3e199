"""Call 5: a move's line."""

import unittest

from tests.helper import (after_rules, at, cornered, hall, line_at, moves, open_hall, plain_hall, row_of, step,
                          with_middle, written)


def write(text, line, names):
    return written(after_rules(text, "write", *step(names), line))


class Written(unittest.TestCase):
    def check(self, text, line, told):
        """The names of the two cells stand first, up to what's taken or how it's over."""
        names = told.partition("x")[0].partition("#")[0]
        self.assertEqual(write(text, line, names), told)

    def test_the_whole_answer_as_numbers(self):
        told = after_rules(open_hall(), "write", *step("d4-d7"), at("h", h="d4"))
        self.assertEqual(told, [0] + row_of("d4-d7"))
        self.assertEqual(told, [0, 5, 100, 52, 45, 100, 55])

    def test_none_taken(self):
        for told in ("d4-d1", "d4-a4", "d4-g4", "d4-c4", "d4-d5"):
            self.check(open_hall(), at("h", h="d4"), told)
            self.check(open_hall(), at("k", m="d4", h="g1"), told)

    def test_one_taken(self):
        self.check(open_hall(), at("h", h="a4 d4", m="c4"), "a4-b4xc4")
        self.check(open_hall(), at("k", m="a4 d4", h="c4 a1"), "a4-b4xc4")
        self.check(open_hall(), at("k", m="d4", h="c4 g1", K="b2"), "b2-b4xc4")

    def test_several_taken_in_the_order_of_their_numbers(self):
        self.check(open_hall(), at("h", h="c1 c6 a4 e4", m="b4 d4 c5"), "c1-c4xb4,d4,c5")
        self.check(open_hall(), at("k", m="c7 c2 a4 e4", h="b4 d4 c3 g1"), "c7-c4xc3,b4,d4")
        self.check(open_hall(), at("h", h="b1 b5 a3", m="b4 b2 c3 e7"), "a3-b3xb2,b4")

    def test_1_the_king_is_among_the_taken(self):
        self.check(open_hall(), at("h", h="a4 d4", K="c4"), "a4-b4xc4#1")
        self.check(open_hall(), at("h", h="d1 b4 f4 d6", m="c4 d5", K="e4"), "d1-d4xc4,e4,d5#1")
        self.check(open_hall(king="steps bare four"), at("h", h="a4 c5 d4 c3", K="c4"), "a4-b4xc4#1")
        self.check(open_hall(king="steps bare four"), at("h", h="f3 b5 c4 a4 b1", m="b2", K="b4"), "f3-b3xb2,b4#1")

    def test_2(self):
        self.check(open_hall(), at("k", h="g1", K="c4"), "c4-c7#2")
        self.check(open_hall(), at("k", h="g1", K="c4"), "c4-c6")
        self.check(cornered(), at("k", h="b1 g6", m="c1", K="a4"), "a4-a1xb1#2")
        self.check(cornered(), at("k", h="b1 g6 a6", m="c1", K="a4"), "a4-a2")

    def test_3(self):
        self.check(open_hall(), at("k", h="a7", m="a6 b1", K="c3"), "b1-b7#3")
        self.check(open_hall(), at("k", h="c4", m="a4 d4"), "a4-b4xc4#3")
        self.check(open_hall(), at("k", h="c4 b5", m="a4 d4 b6"), "a4-b4xc4,b5#3")
        self.check(with_middle("#", king="slides armed four"), at("h", h="c5 c3 a4", K="c4"), "a4-b4#3")

    def test_names_on_grounds_of_more_than_9_rows(self):
        text = plain_hall(13, 13)
        line = line_at(13, 13, "h", h="a2 k13 m1", m="l13", K="g7")
        for told in ("a2-a1", "a2-a9", "a2-a10", "a2-a11", "a2-a13", "a2-m2", "k13-k1", "k13-a13", "m1-m13xl13"):
            self.check(text, line, told)
        line = line_at(13, 13, "h", h="j9 j13 h11 l11 a11", m="j12 i11 k11", K="c3")
        self.check(text, line, "j9-j11xi11,k11,j12")
        self.check(plain_hall(13, 13, first="king"), line_at(13, 13, "k", h="a1", K="j10"), "j10-j13#2")
        self.check(plain_hall(5, 10), line_at(5, 10, "h", h="e10", K="c3"), "e10-a10")
        self.check(plain_hall(5, 10), line_at(5, 10, "h", h="e9", K="c3"), "e9-e10")

    def test_every_cell_has_its_name(self):
        text = plain_hall(13, 13, first="king")
        for number in range(13):
            name = f"{'abcdefghijklm'[number]}{number + 1}"
            line = line_at(13, 13, "h", h=name, K="g8")
            rows = moves(text, line)
            self.assertEqual({row[0] for row in rows}, {14 * number})
            for row in rows:
                other = f"{'abcdefghijklm'[row[1] % 13]}{row[1] // 13 + 1}"
                self.check(text, line, f"{name}-{other}")

    def test_the_seat_and_exits_are_cells_like_others(self):
        text = hall("X...... ....... ....... ...S... ....... ....... .......", "....... ....... ....K.. ....... ....... "
                    ".h..... .......", goal="exits", seat="barred all", exits="all")
        self.check(text, at("k", h="g1", K="d2"), "d2-d4")
        self.check(text, at("k", h="g1", K="a2"), "a2-a7#2")
        self.check(text, at("k", m="a4", h="c4 g1", K="f6"), "a4-b4xc4")
        self.check(text, at("h", h="a4", K="a6"), "a4-a5xa6#1")


if __name__ == "__main__":
    unittest.main()
