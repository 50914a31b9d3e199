"""Call 0: rules' texts, right ones and every kind of fault at its place."""

import unittest

from kinghalldesk.rulestext import read_rules
from tests.helper import begin, hall, plain_hall, rules, run

LETTERS = "ABCDEFGHIJKLMNOPQRSTUVWXYZabcdefghijklmnopqrstuvwxyz"
SIZES = [str(n) for n in range(5, 14)]
LIMITS = {str(n)[:k] for n in range(1, 60001) for k in range(1, 6)}

SMALL = hall("X...X ..#.. ..S.. ..... X...X", "..h.. .h... .mKm. ..... ..h..",
             name="Ab1", first="king", king="steps bare four", seat="barred men",
             exits="hunters", goal="exits", thrice="king", limit="6000")

LONG_SIZES = hall(" ".join(["." * 11] * 10), " ".join(["." * 11] * 4 + ["....K.h...."] + ["." * 11] * 5),
                  limit="59999")


def words(*choice):
    return frozenset(choice)


def slots_behind(wide, high):
    """The grammar from the second size on: sets of words, one behind another."""
    enmity = words("quiet", "hunters", "men", "all")
    slots = [words("\nground\n")]
    for signs, behind in ((".SX#", "start\n"), (".hmK", "first ")):
        for _ in range(high):
            slots += [frozenset(signs)] * wide + [words("\n")]
        slots.append(words(behind))
    slots += [words("hunters", "king"), words("\nking "), words("slides", "steps"), words(" "),
              words("armed", "bare"), words(" "), words("two", "four"), words("\nseat "),
              words("passed", "barred"), words(" "), enmity, words("\nexits "), enmity,
              words("\ngoal "), words("edge", "exits"), words("\nthrice "),
              words("drawn", "hunters", "king"), words("\nlimit "), "LIMIT", words("\n")]
    return tuple(slots)


HEAD = (words("tafl "), "NAME", words(" "), frozenset(SIZES), words(" "), frozenset(SIZES))


class Walker:
    """All the ways in which a text may have been begun, held side by side.

    A way is (sizes told, number of the slot it's in, what is told of that slot).
    """

    def __init__(self):
        self.tails = {}
        self.ways = {((), 0, "")}

    def slot(self, sizes, number):
        if number < len(HEAD):
            return HEAD[number]
        if sizes not in self.tails:
            self.tails[sizes] = slots_behind(int(sizes[0]), int(sizes[1]))
        tail = self.tails[sizes]
        number -= len(HEAD)
        return tail[number] if number < len(tail) else None

    @staticmethod
    def begins(slot, told):
        if slot == "NAME":
            return len(told) <= 16 and all(c in LETTERS or (k and c in "0123456789") for k, c in enumerate(told))
        if slot == "LIMIT":
            return told in LIMITS
        return any(word.startswith(told) for word in slot)

    @staticmethod
    def is_whole(slot, told):
        if slot in ("NAME", "LIMIT"):
            return told != ""
        return told in slot

    def go(self, sign):
        after = set()
        for sizes, number, told in self.ways:
            slot = self.slot(sizes, number)
            if slot is None or not self.begins(slot, told + sign):
                continue
            after.add((sizes, number, told + sign))
            if self.is_whole(slot, told + sign):
                more = (told + sign,) if number in (3, 5) else ()
                after.add((sizes + more, number + 1, ""))
        self.ways = after
        return bool(after)

    def may_end(self):
        return any(number >= len(HEAD) and self.slot(sizes, number) is None for sizes, number, _ in self.ways)


def grammar_fault(text):
    """The first place where no text goes on, or None; found by going all ways at once."""
    walker = Walker()
    for place, sign in enumerate(text):
        if not walker.go(sign):
            return place
    return None if walker.may_end() else len(text)


class RightTexts(unittest.TestCase):
    def test_every_size(self):
        for wide in range(5, 14):
            for high in range(5, 14):
                self.assertEqual(rules(plain_hall(wide, high)), [0])

    def test_every_word(self):
        enmities = ("quiet", "hunters", "men", "all")
        choices = {
            "first": ("hunters", "king"),
            "king": [f"{a} {b} {c}" for a in ("slides", "steps") for b in ("armed", "bare") for c in ("two", "four")],
            "seat": [f"{a} {b}" for a in ("passed", "barred") for b in enmities],
            "exits": enmities,
            "goal": ("edge", "exits"),
            "thrice": ("drawn", "hunters", "king"),
            "limit": ("1", "9", "10", "99", "9999", "10000", "59999", "60000"),
        }
        for key, told in choices.items():
            for word in told:
                text = hall("X.... ..S.. ..... ..... .....", "..... ..... ..K.. ..... h....", **{key: word})
                self.assertEqual(rules(text), [0], word)

    def test_what_a_right_text_says(self):
        said = read_rules(list(SMALL.encode()))
        self.assertEqual((said.wide, said.high, said.slides, said.armed, said.four), (5, 5, 0, 0, 1))
        self.assertEqual((said.passed, said.seat, said.exits, said.goal), (0, 2, 1, 1))
        self.assertEqual((said.thrice, said.limit), (2, 6000))
        other = read_rules(list(LONG_SIZES.encode()))
        self.assertEqual((other.wide, other.high, other.slides, other.armed, other.four), (11, 10, 1, 1, 0))
        self.assertEqual((other.passed, other.seat, other.exits, other.goal), (1, 0, 0, 0))
        self.assertEqual((other.thrice, other.limit), (0, 59999))
        self.assertEqual(read_rules(list(plain_hall(thrice="hunters").encode())).thrice, 1)

    def test_names_of_1_and_16_signs(self):
        for name in ("a", "Z", "K", "a1", "A" * 16, "z" + "9" * 15):
            self.assertEqual(rules(plain_hall(name=name)), [0], name)

    def test_king_may_begin_on_the_seat(self):
        self.assertEqual(rules(hall("..... ..... ..S.. ..... .....", "..... ..... ..K.. ..... h....")), [0])

    def test_no_seat_where_it_is_passed_and_quiet(self):
        self.assertEqual(rules(plain_hall(seat="passed quiet")), [0])

    def test_king_on_the_edge_where_the_goal_is_exits(self):
        self.assertEqual(rules(hall("X.... ..... ..... ..... .....", "..K.. ..... ..... ..... h....", goal="exits")), [0])


class Kind1(unittest.TestCase):
    def check_against_the_grammar(self, text):
        place = grammar_fault(text)
        told = rules(text)
        if place is None:
            self.assertNotEqual(told[:2], [-6, 1], repr(text))
        else:
            self.assertEqual(told, [-6, 1, place], repr(text))

    def test_the_texts_that_are_broken_below_are_right(self):
        for text in (SMALL, LONG_SIZES):
            self.assertIsNone(grammar_fault(text))
            self.assertEqual(rules(text), [0])

    def test_cut_off_at_each_place(self):
        for text in (SMALL, LONG_SIZES):
            for place in range(len(text)):
                self.assertEqual(rules(text[:place]), [-6, 1, place])

    def test_one_byte_changed_at_each_place(self):
        others = sorted(set("\x00\t\r \n!/0123456789AKSXZahkmqz.#~{`@[:\x7f\x80\xff" + SMALL))
        for place in range(len(SMALL)):
            for other in others:
                self.check_against_the_grammar(SMALL[:place] + other + SMALL[place + 1:])

    def test_one_byte_changed_in_the_first_line_and_the_limit_of_a_larger_hall(self):
        for place in list(range(18)) + list(range(len(LONG_SIZES) - 14, len(LONG_SIZES))):
            for other in range(256):
                self.check_against_the_grammar(LONG_SIZES[:place] + chr(other) + LONG_SIZES[place + 1:])

    def test_one_byte_left_out_or_put_in_at_each_place(self):
        for place in range(len(SMALL)):
            self.check_against_the_grammar(SMALL[:place] + SMALL[place + 1:])
            for other in "0 \n.sh":
                self.check_against_the_grammar(SMALL[:place] + other + SMALL[place:])

    def test_goes_on_behind_its_end(self):
        for more in ("\n", " ", "t", "\x00", SMALL):
            self.assertEqual(rules(SMALL + more), [-6, 1, len(SMALL)])

    def test_names(self):
        self.assertEqual(rules(plain_hall(name="")), [-6, 1, 5])
        self.assertEqual(rules(plain_hall(name="1a")), [-6, 1, 5])
        self.assertEqual(rules(plain_hall(name="A" * 17)), [-6, 1, 21])
        self.assertEqual(rules(plain_hall(name="A" * 16 + "1")), [-6, 1, 21])
        self.assertEqual(rules(plain_hall(name="a_b")), [-6, 1, 6])
        self.assertEqual(rules(plain_hall(name="a b")), [-6, 1, 7])

    def test_sizes(self):
        # Behind "tafl H ": the wide size begins at place 7.
        ways = {"4": 7, "05": 7, "0": 7, "": 7, "-5": 7, "55": 8, "50": 8, "1": 8, "14": 8, "19": 8,
                "2": 7, "3": 7, "130": 9, "010": 7, "+5": 7}
        for size, place in ways.items():
            self.assertEqual(rules(f"tafl H {size} 5\n"), [-6, 1, place], size)
            self.assertEqual(rules(f"tafl H 5 {size}\n"), [-6, 1, place + 2], size)

    def test_limits(self):
        start = len(plain_hall(limit=""))
        ways = {"": 0, "0": 0, "01": 0, "-1": 0, "60001": 4, "60010": 4, "600000": 5, "61000": 4, "70000": 4,
                "99999": 4, "123456": 5, "100000": 5, "1 ": 1, "6001": None, "60000": None}
        for limit, place in ways.items():
            expected = [0] if place is None else [-6, 1, start - 1 + place]
            self.assertEqual(rules(plain_hall(limit=limit)), expected, limit)

    def test_rows_too_short_too_long_too_few_too_many(self):
        head = "tafl H 6 5\nground\n"
        self.assertEqual(rules(head + ".....\n"), [-6, 1, len(head) + 5])
        self.assertEqual(rules(head + ".......\n"), [-6, 1, len(head) + 6])
        rows = head + "......\n" * 5
        self.assertEqual(rules(head + "......\n" * 4 + "start\n"), [-6, 1, len(head) + 28])
        self.assertEqual(rules(rows + "......\n"), [-6, 1, len(rows)])
        self.assertEqual(rules(rows + "start\n" + "......\n" * 6), [-6, 1, len(rows) + 6 + 35])

    def test_signs_of_the_one_in_the_other(self):
        head = "tafl H 5 5\nground\n"
        for sign in "hmKsx ":
            self.assertEqual(rules(head + "." + sign), [-6, 1, len(head) + 1])
        head += ".....\n" * 5 + "start\n"
        for sign in "SX#HMk ":
            self.assertEqual(rules(head + "." + sign), [-6, 1, len(head) + 1])

    def test_words_that_begin_alike(self):
        told = "tafl H 5 5\nground\n" + ".....\n" * 5 + "start\n" + ".....\n" * 5 + "first king\nking "
        self.assertEqual(rules(told + "stides"), [-6, 1, len(told) + 2])
        self.assertEqual(rules(told + "slips"), [-6, 1, len(told) + 3])
        self.assertEqual(rules(told + "s"), [-6, 1, len(told) + 1])

    def test_empty_and_longest(self):
        self.assertEqual(rules(""), [-6, 1, 0])
        self.assertEqual(rules([0] * 2000), [-6, 1, 0])
        self.assertEqual(rules("tafl " + "a" * 1995), [-6, 1, 21])

    def test_grammar_goes_before_every_other_fault(self):
        text = hall("SS... ..... ..... ..... .....", "KK... ..... ..... ..... .....", limit="0")
        self.assertEqual(rules(text), [-6, 1, len(text) - 2])


class LaterKinds(unittest.TestCase):
    def place_in(self, text, part, row, x):
        wide = len(text.split("\n")[2])
        return text.index(part + "\n") + len(part) + 1 + row * (wide + 1) + x

    def check(self, kind, part, row, x, text):
        self.assertEqual(rules(text), [-6, kind, self.place_in(text, part, row, x)])

    def test_kind_2_second_seat(self):
        start = "..... ..... ..K.. ..... h...."
        self.check(2, "ground", 2, 3, hall("..... S.... ...S. S.... .....", start))
        self.check(2, "ground", 0, 1, hall("SS... ..... ..... ..... .....", start))
        self.check(2, "ground", 5, 5, hall("S..... ...... ...... ...... ...... .....S",
                                           "...... ...... ..K... ...... ...... h....."))

    def test_kind_3_on_a_wall(self):
        ground = "..... .#... ..... ..... ....."
        for sign in "hmK":
            start = f"..... .{sign}... ..... ..... h...."
            self.check(3, "start", 1, 1, hall(ground, start))

    def test_kind_3_on_the_seat_or_an_exit(self):
        for kind, signs in (("S", "hm"), ("X", "hmK")):
            for sign in signs:
                text = hall(f"..... ..... ...{kind}. ..... .....", f"..... ..... ...{sign}. ..... h....")
                self.check(3, "start", 2, 3, text)

    def test_kind_4_second_king(self):
        ground = "..... ..... ..... ..... ....."
        self.check(4, "start", 3, 2, hall(ground, "..... ..... .K... ..K.. h.K.."))
        self.check(4, "start", 1, 2, hall(ground, "..... .KK.. ..... ..... h...."))

    def test_kind_5_goal_exits_without_an_exit(self):
        text = plain_hall(goal="exits")
        self.assertEqual(rules(text), [-6, 5, text.index("goal ") + 5])

    def test_kind_5_goal_edge_with_the_king_on_the_edge(self):
        ground = "...... ...... ...... ...... ......"
        for row, x in ((0, 2), (4, 3), (2, 0), (1, 5), (0, 0), (4, 5), (4, 0), (0, 5)):
            rows = [list("......") for _ in range(5)]
            rows[3][3] = "h"
            rows[row][x] = "K"
            text = hall(ground, " ".join("".join(told) for told in rows), goal="edge")
            self.assertEqual(rules(text), [-6, 5, text.index("goal ") + 5], (row, x))
        for row, x in ((1, 1), (3, 4), (1, 4), (3, 1)):
            rows = [list("......") for _ in range(5)]
            rows[2][2] = "h"
            rows[row][x] = "K"
            self.assertEqual(rules(hall(ground, " ".join("".join(told) for told in rows))), [0], (row, x))

    def test_kind_5_is_not_told_by_a_k_of_the_name_or_without_a_king(self):
        self.assertEqual(rules(plain_hall(name="K")), [0])
        text = hall("..... ..... ..... ..... .....", "..... ..... ..... ..... h....")
        self.assertEqual(rules(text), [-6, 6, len(text)])

    def test_kind_6(self):
        ground = "..... ..... ..... ..... ....."
        for start in ("..... ..... ..... ..... h....", "..... ..... ..K.. ..... .....",
                      "..... ..... ..... ..... .....", "..... ..... .mKm. ..... ....."):
            text = hall(ground, start)
            self.assertEqual(rules(text), [-6, 6, len(text)])
        for seat in ("passed hunters", "passed men", "passed all", "barred quiet", "barred all"):
            text = plain_hall(seat=seat)
            self.assertEqual(rules(text), [-6, 6, len(text)], seat)

    def test_two_faults_the_first_by_place(self):
        self.check(2, "ground", 4, 4, hall("S.... ..... ..... ..... ....S", "h.... KK... ..... ..... .....", goal="exits"))
        self.check(3, "start", 0, 0, hall("#.... ..... ..... ..... .....", "h.... KK... ..... ..... .....", goal="exits"))
        self.check(4, "start", 1, 1, hall("..... ..... #.... ..... .....", "h.... KK... h.... ..... .....", goal="exits"))
        text = hall("..... ..... ..... ..... .....", "K.... ..... ..... ..... .....", goal="edge")
        self.assertEqual(rules(text), [-6, 5, text.index("goal ") + 5])
        text = hall("..... ..... ..... ..... .....", "..... ..... ..... ..... h....", goal="exits", seat="barred all")
        self.assertEqual(rules(text), [-6, 5, text.index("goal ") + 5])

    def test_two_faults_at_one_place_the_lesser_kind(self):
        for kind in "#X":
            text = hall(f"..... ..... ..... ..{kind}.. .....", "..... .K... ..... ..K.. h....")
            self.check(3, "start", 3, 2, text)


class WhatIsKept(unittest.TestCase):
    def test_refused_text_leaves_the_rules_that_were_there(self):
        good = plain_hall(5, 7)
        for bad in ("", good + " ", good[:-1], plain_hall(9, 9, goal="exits"), plain_hall(9, 9, seat="barred all"),
                    hall("SS... ..... ..... ..... .....", "..... ..... ..K.. ..... h....")):
            told = run(("rules", good), ("rules", bad), ("begin",))
            self.assertEqual(told[0], [0])
            self.assertEqual(told[1][0], -6)
            self.assertEqual(bytes(told[2][2:]).decode(), begin(good))

    def test_refused_text_leaves_none_where_there_were_none(self):
        self.assertEqual(run(("rules", "tafl"), ("begin",)), [[-6, 1, 4], [-3]])

    def test_second_right_text_takes_the_first_ones_place(self):
        one = plain_hall(5, 7)
        two = plain_hall(13, 6, first="king")
        told = run(("rules", one), ("begin",), ("rules", two), ("begin",), ("rules", one), ("begin",))
        self.assertEqual([bytes(told[k][2:]).decode() for k in (1, 3, 5)], [begin(one), begin(two), begin(one)])
        self.assertNotEqual(begin(one), begin(two))


if __name__ == "__main__":
    unittest.main()
