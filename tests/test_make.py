"""Call 4: the position a move comes to, how it's over by it, and what it takes."""

import unittest

from tests.helper import (after_rules, at, cells, cornered, hall, line_at, made, many_after_rules, moves, open_hall,
                          over, plain_hall, row_of, step, with_middle)

FOUR = "slides armed four"


def make(text, line, names):
    return made(after_rules(text, "make", *step(names), line))


class Made(unittest.TestCase):
    def check(self, text, line, names, told, after, taken=""):
        self.assertEqual(make(text, line, names), (told, after, cells(taken)))
        self.assertEqual(over(text, after), [told])

    def test_the_whole_answer_as_numbers(self):
        text = hall("##.## #...# ..... #...# ##.#X", "..... ..... ..K.. .h... .....", goal="exits")
        self.assertEqual(after_rules(text, "make", 26, 27, "5/5/h1K2/5/5 h"),
                         [0] + row_of("5/5/1hK2/5/5 k") + [0])
        self.assertEqual(after_rules(text, "make", 26, 27, "5/5/h1Kh1/5/5 h"),
                         [1] + row_of("5/5/1h1h1/5/5 k") + [1, 28])

    def test_0_with_none_taken(self):
        self.check(open_hall(), at("h", h="b5"), "b5-g5", 0, at("k", h="g5"))
        self.check(open_hall(), at("k", m="b5", h="g1"), "b5-b1", 0, at("h", m="b1", h="g1"))
        self.check(open_hall(), at("k", h="g1", K="c3"), "c3-f3", 0, at("h", h="g1", K="f3"))
        self.check(open_hall(king="steps bare four"), at("k", h="g1", K="c3"), "c3-c4", 0, at("h", h="g1", K="c4"))

    def test_0_with_one_taken(self):
        self.check(open_hall(), at("h", h="a4 d4", m="c4 c1"), "a4-b4", 0, at("k", h="b4 d4", m="c1"), "c4")
        self.check(open_hall(), at("k", m="a4 d4", h="c4 a1"), "a4-b4", 0, at("h", m="b4 d4", h="a1"), "c4")
        self.check(open_hall(), at("k", m="d4", h="c4 g1", K="b2"), "b2-b4", 0, at("h", m="d4", h="g1", K="b4"), "c4")

    def test_0_with_several_taken(self):
        self.check(open_hall(), at("h", h="c1 c6 a4 e4", m="b4 d4 c5 a1"), "c1-c4", 0,
                   at("k", h="c4 c6 a4 e4", m="a1"), "b4 d4 c5")
        self.check(open_hall(), at("k", m="c7 c2 a4 e4", h="b4 d4 c3 g1"), "c7-c4", 0,
                   at("h", m="c4 c2 a4 e4", h="g1"), "c3 b4 d4")

    def test_0_where_one_comes_between_two(self):
        self.check(open_hall(), at("k", h="b4 d4", m="c6"), "c6-c4", 0, at("h", h="b4 d4", m="c4"))

    def test_0_over_the_seat_and_onto_it(self):
        text = with_middle("S", seat="passed all")
        self.check(text, at("h", h="a4"), "a4-g4", 0, at("k", h="g4"))
        self.check(text, at("k", h="g1", K="d2"), "d2-d4", 0, at("h", h="g1", K="d4"))
        self.check(text, at("k", h="g1", K="d2"), "d2-d6", 0, at("h", h="g1", K="d6"))

    def test_0_against_the_seat_that_the_king_has_left(self):
        # He leaves the seat and comes beside a hunter, with the seat not between: none is taken by that.
        text = with_middle("S", seat="barred all")
        self.check(text, at("k", h="c4 g1", K="d4"), "d4-d5", 0, at("h", h="c4 g1", K="d5"))
        # Empty, it's against a hunter that a man comes beside then.
        self.check(text, at("k", m="a4", h="c4 g1", K="d5"), "a4-b4", 0, at("h", m="b4", h="g1", K="d5"), "c4")

    def test_1_by_two(self):
        self.check(open_hall(), at("h", h="a4 d4", K="c4"), "a4-b4", 1, at("k", h="b4 d4", K=""), "c4")
        self.check(with_middle("S", seat="barred men"), at("h", h="a4", m="g7", K="c4"), "a4-b4", 1,
                   at("k", h="b4", m="g7", K=""), "c4")

    def test_1_by_two_with_men_among_the_taken(self):
        self.check(open_hall(), at("h", h="d1 b4 f4 d6", m="c4 d5 a1", K="e4"), "d1-d4", 1,
                   at("k", h="d4 b4 f4 d6", m="a1", K=""), "c4 e4 d5")

    def test_1_by_four(self):
        text = open_hall(king=FOUR)
        self.check(text, at("h", h="a4 c5 d4 c3", K="c4"), "a4-b4", 1, at("k", h="b4 c5 d4 c3", K=""), "c4")
        self.check(text, at("h", h="a4 c5 c3 g1", K="c4"), "a4-b4", 0, at("k", h="b4 c5 c3 g1", K="c4"))
        self.check(text, at("h", h="f3 b5 c4 b1", m="b2", K="b4"), "f3-b3", 0, at("k", h="b3 b5 c4 b1", K="b4"), "b2")
        self.check(text, at("h", h="f3 b5 c4 a4 b1", m="b2", K="b4"), "f3-b3", 1,
                   at("k", h="b3 b5 c4 a4 b1", K=""), "b2 b4")

    def test_2_on_the_edge_and_on_an_exit(self):
        self.check(open_hall(), at("k", h="g1", m="b3", K="c4"), "c4-c7", 2, at("h", h="g1", m="b3", K="c7"))
        self.check(cornered(), at("k", h="f3", K="a4"), "a4-a1", 2, at("h", h="f3", K="a1"))
        self.check(cornered(), at("k", h="b1 g6", m="c1", K="a4"), "a4-a1", 2, at("h", h="g6", m="c1", K="a1"), "b1")

    def test_3_the_last_hunter_is_taken_or_shut_in(self):
        self.check(open_hall(), at("k", h="c4", m="a4 d4"), "a4-b4", 3, at("h", m="b4 d4"), "c4")
        self.check(open_hall(), at("k", h="a7", m="a6 b1", K="c3"), "b1-b7", 3, at("h", h="a7", m="a6 b7", K="c3"))

    def test_3_the_king_is_shut_in(self):
        self.check(with_middle("#", king=FOUR), at("h", h="c5 c3 a4", K="c4"), "a4-b4", 3,
                   at("k", h="c5 c3 b4", K="c4"))

    def test_on_the_largest_ground(self):
        self.check(plain_hall(13, 13), line_at(13, 13, "h", h="a13 m1", m="l13", K="g7"), "m1-m13", 0,
                   line_at(13, 13, "k", h="a13 m13", m="l13", K="g7"))
        self.check(plain_hall(13, 13), line_at(13, 13, "h", h="k13 m1", m="l13", K="g7"), "m1-m13", 0,
                   line_at(13, 13, "k", h="k13 m13", K="g7"), "l13")

    def test_on_a_ground_wide_and_high_differently(self):
        self.check(plain_hall(5, 12), line_at(5, 12, "h", h="a10 c12", K="c6"), "a10-a12", 0,
                   line_at(5, 12, "k", h="a12 c12", K="c6"))
        self.check(plain_hall(12, 5), line_at(12, 5, "h", h="j1", m="b2", K="c3"), "j1-l1", 0,
                   line_at(12, 5, "k", h="l1", m="b2", K="c3"))


class MovesAndMake(unittest.TestCase):
    def test_every_move_is_made_and_no_other(self):
        text = hall("X..#. ..... ..S.. ..... ....X", "..... .K... ..... ..... h....", goal="exits", seat="passed all")
        pairs = [(x, y) for x in range(70) for y in range(70)]
        for line in ("2h2/1m2h/2K2/hm3/2h2 h", "2h2/1m2h/2K2/hm3/2h2 k"):
            rows = {(row[0], row[1]): row[2:] for row in moves(text, line)}
            told = many_after_rules(text, [("make", x, y, line) for x, y in pairs])
            for pair, answer in zip(pairs, told):
                if pair in rows:
                    told_over, after, taken = made(answer)
                    self.assertEqual([told_over] + taken, rows[pair], pair)
                else:
                    self.assertEqual(answer, [-2], pair)


if __name__ == "__main__":
    unittest.main()
