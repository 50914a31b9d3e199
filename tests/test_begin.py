"""Call 1: the line of the rules' start."""

import unittest

from tests.helper import begin, hall, over, plain_hall, run


class Begin(unittest.TestCase):
    def test_no_rules(self):
        self.assertEqual(run(("begin",)), [[-3]])

    def test_the_whole_answer(self):
        told = run(("rules", plain_hall(5, 5)), ("begin",))[1]
        line = b"5/5/2K2/5/h4 h"
        self.assertEqual(told, [0, len(line)] + list(line))

    def test_wide_and_high_differently(self):
        self.assertEqual(begin(plain_hall(7, 5)), "7/7/3K3/7/h6 h")
        self.assertEqual(begin(plain_hall(5, 8, first="king")), "5/5/5/5/2K2/5/5/h4 k")
        self.assertEqual(begin(plain_hall(13, 5)), "13/13/6K6/13/h12 h")
        self.assertEqual(begin(plain_hall(5, 13)), "5/5/5/5/5/5/2K2/5/5/5/5/5/h4 h")
        self.assertEqual(begin(plain_hall(12, 6)), "12/12/12/6K5/12/h11 h")

    def test_uppermost_row_first_and_numbers_as_great_as_can_be(self):
        text = hall("...... ...... ...... ...... ......", "hhhhhh m....m ..Kh.. .m.m.m h.....", first="king")
        self.assertEqual(begin(text), "hhhhhh/m4m/2Kh2/1m1m1m/h5 k")

    def test_walls_seat_and_exits_count_as_cells_without_a_piece(self):
        text = hall("X#..X .#S#. ..#.. ..... X...X", "..h.. ..K.. .m... ..... .....")
        self.assertEqual(begin(text), "2h2/2K2/1m3/5/5 h")

    def test_a_start_may_be_over_by_itself(self):
        text = hall("#.... .#... ..... ..... ....X", "..... h.... .K... ..... h....", goal="exits")
        self.assertEqual(over(text, begin(text)), [0])
        shut = hall(".#... #.... ..... ..... ....X", "h.... ..... ..K.. ..... .....", goal="exits")
        self.assertEqual(over(shut, begin(shut)), [3])

    def test_every_size(self):
        for wide in range(5, 14):
            for high in range(5, 14):
                rows = [str(wide)] * high
                left, right = wide // 2, wide - wide // 2 - 1
                rows[high // 2] = f"{left}K{right}"
                rows[high - 1] = f"h{wide - 1}"
                self.assertEqual(begin(plain_hall(wide, high)), "/".join(rows) + " h")


if __name__ == "__main__":
    unittest.main()
