"""Call 2: whether a position is over by itself, and how."""

import unittest

from tests.helper import hall, over, run

EDGE = hall("X...... ....... ....... ...S... ....... ....... ......X",
            "....... ....... ....... ...K... ....... ....... ...h...", seat="barred all")
EXITS = EDGE.replace("goal edge", "goal exits")


class GoalEdge(unittest.TestCase):
    def test_0(self):
        for turn in "hk":
            self.assertEqual(over(EDGE, f"7/7/7/3K3/7/7/3h3 {turn}"), [0])
            self.assertEqual(over(EDGE, f"7/1K5/7/7/7/7/3h3 {turn}"), [0])
            self.assertEqual(over(EDGE, f"7/7/7/7/7/5K1/3h3 {turn}"), [0])

    def test_1_the_king_is_taken(self):
        for turn in "hk":
            self.assertEqual(over(EDGE, f"7/7/7/7/7/7/3h3 {turn}"), [1])
            self.assertEqual(over(EDGE, f"7/7/7/7/7/7/7 {turn}"), [1])
            self.assertEqual(over(EDGE, f"1mm4/7/7/7/7/7/7 {turn}"), [1])

    def test_2_on_every_edge(self):
        for line in ("3K3/7/7/7/7/7/3h3", "7/7/7/K6/7/7/3h3", "7/7/7/6K/7/7/3h3", "7/7/7/7/7/7/K2h3",
                     "K6/7/7/7/7/7/3h3", "7/7/7/7/7/7/3h2K"):
            for turn in "hk":
                self.assertEqual(over(EDGE, f"{line} {turn}"), [2], line)

    def test_2_goes_before_3(self):
        self.assertEqual(over(EDGE, "3K3/7/7/7/7/7/7 h"), [2])

    def test_edges_of_a_ground_wide_and_high_differently(self):
        text = hall("....... ....... ....... ....... .......", "....... ....... ..K.... ....... h......")
        for line, told in (("6K/7/7/7/h6 h", 2), ("7/5K1/7/7/h6 h", 0), ("7/7/7/4K2/h6 h", 0), ("7/7/7/7/h3K2 h", 2),
                           ("7/7/6K/7/h6 k", 2), ("7/7/K6/7/h6 k", 2), ("3K3/7/7/7/h6 k", 2)):
            self.assertEqual(over(text, line), [told], line)


class GoalExits(unittest.TestCase):
    def test_0_also_on_the_edge(self):
        for line in ("3K3/7/7/7/7/7/3h3", "7/7/7/3K3/7/7/3h3", "6K/7/7/7/7/7/3h3", "7/7/7/K6/7/7/3h3"):
            for turn in "hk":
                self.assertEqual(over(EXITS, f"{line} {turn}"), [0], line)

    def test_1(self):
        self.assertEqual(over(EXITS, "7/7/7/7/7/7/3h3 h"), [1])

    def test_2(self):
        for line in ("K6/7/7/7/7/7/3h3", "7/7/7/7/7/7/3h2K"):
            for turn in "hk":
                self.assertEqual(over(EXITS, f"{line} {turn}"), [2], line)

    def test_exits_need_not_be_on_the_edge(self):
        text = hall("..... .X... ..... ..... .....", "..... ..... ..K.. ..... h....", goal="exits")
        self.assertEqual(over(text, "5/1K3/5/5/h4 h"), [2])
        self.assertEqual(over(text.replace("goal exits", "goal edge"), "5/1K3/5/5/h4 h"), [0])

    def test_3_and_not_3_for_the_other_side(self):
        # In the corner: neighbours of the hunter are an exit and a man.
        text = hall(".X... ..... ..... ..... .....", "..... ..... ..K.. ..... h....", goal="exits")
        self.assertEqual(over(text, "h4/m4/2K2/5/5 h"), [3])
        self.assertEqual(over(text, "h4/m4/2K2/5/5 k"), [0])
        self.assertEqual(over(text, "h4/5/m1K2/5/5 h"), [0])


class NoMove(unittest.TestCase):
    def test_no_hunter_is_left(self):
        self.assertEqual(over(EDGE, "7/7/7/3K3/7/7/7 h"), [3])
        self.assertEqual(over(EDGE, "7/7/7/3K3/7/7/7 k"), [0])

    def test_king_shut_in_by_hunters_and_walls(self):
        text = hall("..... ..#.. .#... ..... .....", "..... ..... ..K.. ..... h....")
        self.assertEqual(over(text, "5/5/2Kh1/2h2/5 k"), [3])
        self.assertEqual(over(text, "5/5/2Kh1/2h2/5 h"), [0])
        self.assertEqual(over(text, "5/5/2Kh1/2m2/5 k"), [0])
        self.assertEqual(over(text, "5/5/2K2/2h2/5 k"), [0])

    def test_hunter_beside_the_seat(self):
        # The one way out of the hole leads over the seat.
        ground = "#.### ##.## ##S## ##.## ....X"
        for word, told in (("passed", 0), ("barred", 3)):
            text = hall(ground, "..... ..h.. ..K.. ..... .....", goal="exits", seat=f"{word} quiet")
            self.assertEqual(over(text, "5/2h2/5/5/2K2 h"), [told], word)
            self.assertEqual(over(text, "5/2h2/5/2m2/2K2 h"), [3], word)
            self.assertEqual(over(text, "5/2h2/2K2/5/5 h"), [3], word)

    def test_king_goes_over_the_seat_and_onto_it(self):
        ground = "#.### ##.## ##S## ##.## ....X"
        text = hall(ground, "..... ..h.. ..K.. ..... .....", goal="exits", seat="barred all", king="steps bare four")
        self.assertEqual(over(text, "5/2K2/5/5/h4 k"), [0])
        self.assertEqual(over(text, "5/2K2/5/5/h4 h"), [0])

    def test_men_who_cannot_move_but_the_king_can(self):
        text = hall("..... ..... ..... ..... .....", "..... ..... ..K.. ..... h....")
        self.assertEqual(over(text, "mh3/h4/2K2/5/5 k"), [0])
        self.assertEqual(over(text, "mh3/h1h2/1hKh1/2h2/5 k"), [3])
        self.assertEqual(over(text, "m4/h1h2/1hKh1/2h2/5 k"), [0])


class Refusals(unittest.TestCase):
    def test_no_rules(self):
        self.assertEqual(run(("over", "5/5/2K2/5/h4 h")), [[-3]])
        self.assertEqual(run(("over", "wrong")), [[-3]])

    def test_both_kinds(self):
        self.assertEqual(over(EDGE, "7/7/7/7/7/7/3h4 h"), [-5, 1, 14])
        self.assertEqual(over(EDGE, "h6/7/7/7/7/7/7 h"), [-5, 2, 0])
        self.assertEqual(over(EDGE, "7/7/7/3K3/7/7/3h3 h" + " " * 600), [-5, 1, 19])


if __name__ == "__main__":
    unittest.main()
