"""A position's line: its faults of both kinds with their places, told by -5."""

import unittest

from tests.helper import HIGHEST, begin, hall, over, plain_hall, run

PLAIN = plain_hall(7, 5)
WIDE = plain_hall(13, 5)
SPECIAL = hall("X.#.. ..... ..S.. ..... ....X", "..... .K... ..... ..... h....", goal="exits")

LINES = ("7/1h3m1/2mKm2/hhhhhhh/h5m k", "1h1h1h1/7/7/3K3/7 h", "7/7/7/7/hmhmhmh k")
WIDE_LINES = ("13/h12/10K2/1h1m9/h11h h", "12m/11hh/1m11/6K6/13 k")


def begins(wide, high):
    """A walker over all ways to have begun a line: (row, filled, behind, number, kings)."""
    def on(way, sign):
        row, filled, told, number, kings = way
        if number and sign.isascii() and sign.isdigit() and int(number + sign) + filled <= wide:
            yield (row, filled, told, number + sign, kings)
        if number:
            filled += int(number)
        if row == high:
            # The rows are told: the blank, whose turn it is, nothing more.
            if told == "rows" and sign in "hk":
                yield (row, 0, "end", "", kings)
            return
        if filled < wide and sign in "123456789" and not number and int(sign) + filled <= wide:
            yield (row, filled, told, sign, kings)
        if filled < wide and (sign in "hm" or (sign == "K" and not kings)):
            yield (row, filled + 1, told, "", kings + (sign == "K"))
        if filled == wide and row < high - 1 and sign == "/":
            yield (row + 1, 0, told, "", kings)
        if filled == wide and row == high - 1 and sign == " ":
            yield (high, 0, "rows", "", kings)
    return on


def line_fault(wide, high, line):
    """The first place where no line goes on, or None."""
    on = begins(wide, high)
    ways = {(0, 0, "", "", 0)}
    for place, sign in enumerate(line):
        ways = {after for way in ways for after in on(way, sign)}
        if not ways:
            return place
    return None if any(way[2] == "end" for way in ways) else len(line)


class Kind1(unittest.TestCase):
    def check(self, text, wide, high, line):
        place = line_fault(wide, high, line)
        told = over(text, line)
        if place is None:
            self.assertIn(told, ([0], [1], [2], [3]), line)
        else:
            self.assertEqual(told, [-5, 1, place], line)

    def samples(self):
        return [(PLAIN, 7, 5, line) for line in LINES] + [(WIDE, 13, 5, line) for line in WIDE_LINES]

    def test_the_lines_that_are_broken_below_are_right(self):
        for text, wide, high, line in self.samples():
            self.assertIsNone(line_fault(wide, high, line))
            self.assertEqual(len(over(text, line)), 1)

    def test_cut_off_at_each_place(self):
        for text, wide, high, line in self.samples():
            for place in range(len(line)):
                self.assertEqual(over(text, line[:place]), [-5, 1, place], line[:place])

    def test_one_byte_changed_at_each_place(self):
        for text, wide, high, line in self.samples():
            for place in range(len(line)):
                for other in "\x00\n !/.0123456789HhKkMm:\x80\xb2\xff":
                    self.check(text, wide, high, line[:place] + other + line[place + 1:])

    def test_one_byte_left_out_or_put_in_at_each_place(self):
        for text, wide, high, line in self.samples():
            for place in range(len(line) + 1):
                self.check(text, wide, high, line[:place] + line[place + 1:])
                for other in "0123456789hmK/ k":
                    self.check(text, wide, high, line[:place] + other + line[place:])

    def test_goes_on_behind_its_end(self):
        for line in LINES:
            for more in (" ", "h", "\n", "\x00"):
                self.assertEqual(over(PLAIN, line + more), [-5, 1, len(line)])

    def test_second_king(self):
        self.assertEqual(over(PLAIN, "KK5/7/7/7/7 h"), [-5, 1, 1])
        self.assertEqual(over(PLAIN, "7/3K3/7/7/6K h"), [-5, 1, 11])

    def test_numbers(self):
        for line, place in (("07/", 0), ("8/", 0), ("0", 0), ("34/", 1), ("h7/", 1), ("h6/70", 4),
                            ("16/", 1), ("1h6/", 2), ("7/61", 3), ("10/", 1)):
            self.assertEqual(over(PLAIN, line), [-5, 1, place], line)
        for line, place in (("14/", 1), ("13/h13", 5), ("h12/11", 6), ("20/", 1), ("93", 1), ("12/", 2),
                            ("h10/", 3), ("hhhh10", 5), ("013", 0), ("130", 2)):
            self.assertEqual(over(WIDE, line), [-5, 1, place], line)

    def test_the_ground_of_these_rules_counts(self):
        line = "5/5/2K2/5/h4 h"
        self.assertEqual(over(plain_hall(5, 5), line), [0])
        self.assertEqual(over(plain_hall(6, 5), line), [-5, 1, 1])
        self.assertEqual(over(plain_hall(5, 6), line), [-5, 1, 12])

    def test_empty(self):
        self.assertEqual(over(PLAIN, ""), [-5, 1, 0])

    def test_more_than_512_bytes(self):
        line = LINES[0]
        for many in (511, 512, 513, 514, 1000):
            self.assertEqual(over(PLAIN, line + "h" * (many - len(line))), [-5, 1, len(line)])
            self.assertEqual(over(PLAIN, "h" * many), [-5, 1, 7])
            self.assertEqual(over(PLAIN, " " * many), [-5, 1, 0])

    def test_kind_1_goes_before_kind_2(self):
        self.assertEqual(over(SPECIAL, "h1h2/5/2m2/5/4h"), [-5, 1, 15])

    def test_no_king_is_no_fault(self):
        self.assertEqual(over(PLAIN, "h6/7/7/7/7 k"), [1])


class Kind2(unittest.TestCase):
    def test_on_a_wall(self):
        for sign in "hmK":
            self.assertEqual(over(SPECIAL, f"2{sign}2/5/5/5/5 h"), [-5, 2, 1])

    def test_hunters_and_men_on_the_seat_or_an_exit(self):
        for sign in "hm":
            self.assertEqual(over(SPECIAL, f"{sign}4/5/5/5/5 h"), [-5, 2, 0])
            self.assertEqual(over(SPECIAL, f"5/5/2{sign}2/5/5 h"), [-5, 2, 5])
            self.assertEqual(over(SPECIAL, f"5/5/5/5/4{sign} h"), [-5, 2, 9])

    def test_the_king_may_be_there(self):
        for line in ("K3h/5/5/5/5 h", "4h/5/2K2/5/5 h", "4h/5/5/5/4K h"):
            self.assertEqual(len(over(SPECIAL, line)), 1, line)

    def test_the_first_in_the_text(self):
        self.assertEqual(over(SPECIAL, "3hh/5/1hm2/5/4h h"), [-5, 2, 8])
        self.assertEqual(over(SPECIAL, "hhh2/5/5/5/5 h"), [-5, 2, 0])
        self.assertEqual(over(SPECIAL, "K1h2/5/2h2/5/5 h"), [-5, 2, 2])


def calls_with(line):
    """Every call that has a position's line, with that one; what else it has is at fault or not."""
    return [("over", line), ("moves", line), ("make", 0, 1, line), ("make", HIGHEST, HIGHEST, line),
            ("write", 0, 1, line), ("write", HIGHEST, HIGHEST, line), ("read", line, "a1-b1"), ("read", line, ""),
            ("deep", 1, 2000, line), ("deep", 6, 1, line), ("deep", 0, 0, line), ("deep", HIGHEST, HIGHEST, line)]


class AllCallsWithALine(unittest.TestCase):
    def test_no_rules_before_all_else(self):
        for line in ("", "5/5/2K2/5/h4 h", "nothing", "h" * 600):
            calls = calls_with(line)
            self.assertEqual(run(*calls), [[-3]] * len(calls))
            self.assertEqual(run(("rules", "tafl!"), *calls), [[-6, 1, 4]] + [[-3]] * len(calls))

    def test_all_tell_the_same_faults(self):
        for line, told in (("", [-5, 1, 0]), ("7/7/7/7/7", [-5, 1, 9]), ("h" * 1000, [-5, 1, 7])):
            calls = calls_with(line)
            self.assertEqual(run(("rules", PLAIN), *calls), [[0]] + [told] * len(calls))
        calls = calls_with("5/5/2h2/5/5 k")
        self.assertEqual(run(("rules", SPECIAL), *calls), [[0]] + [[-5, 2, 5]] * len(calls))

    def test_a_refused_line_changes_nothing(self):
        refused = calls_with("x") + calls_with("7/7/7/7/7 x")
        told = run(("rules", PLAIN), *refused, ("begin",), ("over", LINES[0]))
        half = len(refused) // 2
        self.assertEqual(told[1:-2], [[-5, 1, 0]] * half + [[-5, 1, 10]] * half)
        self.assertEqual(bytes(told[-2][2:]).decode(), begin(PLAIN))
        self.assertEqual(told[-1], over(PLAIN, LINES[0]))


if __name__ == "__main__":
    unittest.main()
