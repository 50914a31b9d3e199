"""Call 3: where pieces go, what they take, how it's over, and the order of it all."""

import unittest

from tests.helper import at, cell, cells, cornered, hall, line_at, moves, open_hall, run, step, with_middle

ENMITIES = ("quiet", "hunters", "men", "all")
AGAINST_HUNTERS = ("hunters", "all")
AGAINST_MEN = ("men", "all")


def targets(text, line, name):
    return [row[1] for row in moves(text, line) if row[0] == cell(name)]


def told(text, line, names):
    """What is told of one move behind its two cells: over, then the taken."""
    found = [row[2:] for row in moves(text, line) if row[:2] == step(names)]
    assert len(found) == 1, f"{names} is told {len(found)} times"
    return found[0]


class Going(unittest.TestCase):
    def check(self, text, line, name, names):
        self.assertEqual(targets(text, line, name), sorted(cells(names)))

    def test_a_hunter_slides_along_row_and_column(self):
        self.check(open_hall(), at("h", h="b5"), "b5", "b1 b2 b3 b4 b6 b7 a5 c5 d5 e5 f5 g5")

    def test_a_man_goes_likewise(self):
        self.check(open_hall(), at("k", m="b5", h="g1"), "b5", "b1 b2 b3 b4 b6 b7 a5 c5 d5 e5 f5 g5")

    def test_only_the_side_whose_turn_it_is(self):
        self.assertEqual({row[0] for row in moves(open_hall(), at("h", m="b5", h="g1 g2"))}, set(cells("g1 g2")))
        self.assertEqual({row[0] for row in moves(open_hall(), at("k", m="b5", h="g1 g2"))}, set(cells("b5 f6")))

    def test_pieces_of_either_side_stop_it(self):
        self.check(open_hall(), at("h", h="b5 b7", m="e5 b3"), "b5", "b4 b6 a5 c5 d5")
        self.check(open_hall(), at("h", h="b5 a5 b6 c5 b4"), "b5", "")
        self.check(open_hall(), at("h", h="b5", K="d5"), "b5", "b1 b2 b3 b4 b6 b7 a5 c5")

    def test_walls_stop_it(self):
        self.check(with_middle("#"), at("h", h="b4"), "b4", "a4 c4 b1 b2 b3 b5 b6 b7")
        self.check(with_middle("#"), at("k", h="a1", K="b4"), "b4", "a4 c4 b1 b2 b3 b5 b6 b7")

    def test_a_king_who_slides(self):
        self.check(open_hall(), at("k", h="f5", m="b2", K="b5"), "b5", "b3 b4 b6 b7 a5 c5 d5 e5")

    def test_a_king_who_steps(self):
        text = open_hall(king="steps armed two")
        self.check(text, at("k", h="g1", K="b5"), "b5", "b4 b6 a5 c5")
        self.check(text, at("k", h="c5", m="b4", K="b5"), "b5", "b6 a5")
        self.check(text, at("k", h="g1", m="b2", K="b5"), "b2", "a2 c2 d2 e2 f2 g2 b1 b3 b4")

    def test_hunters_and_men_go_over_a_seat_that_is_passed(self):
        text = with_middle("S", seat="passed quiet")
        for line in (at("h", h="b4"), at("k", m="b4", h="g1")):
            self.check(text, line, "b4", "a4 c4 e4 f4 g4 b1 b2 b3 b5 b6 b7")

    def test_hunters_and_men_do_not_go_over_a_seat_that_is_barred(self):
        text = with_middle("S", seat="barred quiet")
        for line in (at("h", h="b4"), at("k", m="b4", h="g1")):
            self.check(text, line, "b4", "a4 c4 b1 b2 b3 b5 b6 b7")

    def test_nobody_goes_over_the_king_on_a_seat_that_is_passed(self):
        self.check(with_middle("S"), at("h", h="b4", K="d4"), "b4", "a4 c4 b1 b2 b3 b5 b6 b7")

    def test_hunters_and_men_do_not_go_over_an_exit(self):
        text = with_middle("X")
        for line in (at("h", h="b4"), at("k", m="b4", h="g1")):
            self.check(text, line, "b4", "a4 c4 b1 b2 b3 b5 b6 b7")

    def test_the_king_stops_on_any_cell_and_goes_over_any(self):
        every = "a4 c4 d4 e4 f4 g4 b1 b2 b3 b5 b6 b7"
        for text in (with_middle("S", seat="barred all"), with_middle("S"), with_middle("X", exits="all")):
            self.check(text, at("k", h="g1", K="b4"), "b4", every)
            self.check(text, at("k", h="g1", K="d4"), "d4", "a4 b4 c4 e4 f4 g4 d1 d2 d3 d5 d6 d7")

    def test_a_king_who_steps_onto_the_seat_and_an_exit(self):
        for text in (with_middle("S", seat="barred all", king="steps bare four"),
                     with_middle("X", king="steps bare four")):
            self.check(text, at("k", h="g1", K="c4"), "c4", "b4 d4 c3 c5")

    def test_a_ground_does_not_go_round(self):
        # On a ground 13 wide, the number behind a row's last cell is the next row's first.
        wide = "............."
        text = hall(" ".join([wide] * 5), f"{wide} {wide} ......K...... {wide} h............")
        self.check(text, "13/13/6K6/12h/13 h", "m2", "a2 b2 c2 d2 e2 f2 g2 h2 i2 j2 k2 l2 m1 m3 m4 m5")
        self.check(text, "13/13/6K6/h12/13 h", "a2", "b2 c2 d2 e2 f2 g2 h2 i2 j2 k2 l2 m2 a1 a3 a4 a5")
        self.assertEqual([row[2:] for row in moves(text, "13/13/2K10/mh10m/13 k") if row[:2] == [25, 24]], [[0]])

    def test_the_order(self):
        rows = moves(open_hall(), at("h", h="a7 g7 a1 g1 d4"))
        self.assertEqual([row[:2] for row in rows], sorted(row[:2] for row in rows))
        self.assertEqual(len(rows), 4 * 10 + 12)
        rows = moves(open_hall(), at("k", h="g1", m="e1 b7", K="c3"))
        self.assertEqual([row[:2] for row in rows], sorted(row[:2] for row in rows))
        self.assertEqual(rows[0][:2], cells("e1 a1"))
        self.assertEqual(rows[-1][:2], cells("b7 g7"))


class Men(unittest.TestCase):
    def test_a_hunter_takes_a_man(self):
        self.assertEqual(told(open_hall(), at("h", h="a4 d4", m="c4"), "a4-b4"), [0, cell("c4")])

    def test_a_man_takes_a_hunter(self):
        self.assertEqual(told(open_hall(), at("k", m="a4 d4", h="c4 a1"), "a4-b4"), [0, cell("c4")])

    def test_each_of_the_four_ways(self):
        for near, behind in (("d5", "d6"), ("e4", "f4"), ("d3", "d2"), ("c4", "b4")):
            start = "d1" if near != "d3" else "d7"
            line = at("h", h=f"{start} {behind}", m=near)
            self.assertEqual(told(open_hall(), line, f"{start}-d4"), [0, cell(near)])

    def test_none_is_taken_with_no_foe_behind(self):
        self.assertEqual(told(open_hall(), at("h", h="a4", m="c4"), "a4-b4"), [0])
        self.assertEqual(told(open_hall(), at("h", h="a4", m="c4 d4"), "a4-b4"), [0])
        self.assertEqual(told(open_hall(), at("h", h="a4 e4", m="c4"), "a4-b4"), [0])
        self.assertEqual(told(open_hall(), at("h", h="a4", m="c4", K="d4"), "a4-b4"), [0])

    def test_none_is_taken_against_the_grounds_end_or_a_wall(self):
        self.assertEqual(told(open_hall(), at("h", h="b1", m="a4"), "b1-b4"), [0])
        self.assertEqual(told(open_hall(), at("h", h="a6", m="c7"), "a6-c6"), [0])
        self.assertEqual(told(with_middle("#", seat="passed quiet", exits="all"), at("h", h="a4", m="c4"), "a4-b4"), [0])

    def test_going_between_two_is_safe(self):
        self.assertEqual(told(open_hall(), at("k", h="b4 d4", m="c6"), "c6-c4"), [0])
        self.assertEqual(told(open_hall(), at("h", h="c6", m="b4 d4"), "c6-c4"), [0])

    def test_who_is_not_beside_the_piece_that_came_stays(self):
        self.assertEqual(told(open_hall(), at("h", h="a1 b4 d4", m="c4"), "a1-b1"), [0])

    def test_own_side_and_corners_are_not_taken(self):
        self.assertEqual(told(open_hall(), at("h", h="a4 c4 d4"), "a4-b4"), [0])
        self.assertEqual(told(open_hall(), at("h", h="a4 d6", m="c5"), "a4-b4"), [0])

    def test_several_at_once_rising(self):
        line = at("h", h="c1 c6 a4 e4", m="b4 d4 c5")
        self.assertEqual(told(open_hall(), line, "c1-c4"), [0] + cells("b4 d4 c5"))
        line = at("k", m="c1 c6 a4 e4", h="b4 d4 c5 g1")
        self.assertEqual(told(open_hall(), line, "c1-c4"), [0] + cells("b4 d4 c5"))


class ArmedAndBare(unittest.TestCase):
    def test_the_king_as_the_one_who_moves(self):
        line = at("k", m="d4", h="c4 g1", K="b2")
        self.assertEqual(told(open_hall(king="slides armed two"), line, "b2-b4"), [0, cell("c4")])
        self.assertEqual(told(open_hall(king="slides bare two"), line, "b2-b4"), [0])

    def test_a_bare_king_takes_none_against_the_seat_or_an_exit_either(self):
        line = at("k", h="c4 g1", K="b2")
        for middle in ("S", "X"):
            for word, taken in (("armed", [cell("c4")]), ("bare", [])):
                text = with_middle(middle, king=f"slides {word} two", seat="passed all" if middle == "S" else
                                   "passed quiet", exits="all")
                self.assertEqual(told(text, line, "b2-b4"), [0] + taken)

    def test_the_king_as_the_one_behind(self):
        line = at("k", m="a4", h="c4 g1", K="d4")
        self.assertEqual(told(open_hall(king="slides armed two"), line, "a4-b4"), [0, cell("c4")])
        self.assertEqual(told(open_hall(king="slides bare two"), line, "a4-b4"), [0])

    def test_men_take_whether_he_is_armed_or_not(self):
        line = at("k", m="a4 d4", h="c4 g1")
        self.assertEqual(told(open_hall(king="steps bare four"), line, "a4-b4"), [0, cell("c4")])


class Enmity(unittest.TestCase):
    def halls(self, middle, king="slides bare two"):
        for enmity in ENMITIES:
            if middle == "S":
                yield enmity, with_middle("S", king=king, seat=f"barred {enmity}")
            else:
                yield enmity, with_middle("X", king=king, exits=enmity)

    def check(self, middle, line, names, taken, against, over=0, king="slides bare two"):
        for enmity, text in self.halls(middle, king):
            expected = [over] + cells(taken) if enmity in against else [0]
            self.assertEqual(told(text, line, names), expected, enmity)

    def test_against_hunters(self):
        for middle in "SX":
            self.check(middle, at("k", m="a4", h="c4 g1"), "a4-b4", "c4", AGAINST_HUNTERS)

    def test_against_men(self):
        for middle in "SX":
            self.check(middle, at("h", h="a4", m="c4"), "a4-b4", "c4", AGAINST_MEN)

    def test_against_the_king_by_rule_two(self):
        for middle in "SX":
            self.check(middle, at("h", h="a4", K="c4"), "a4-b4", "c4", AGAINST_MEN, 1)

    def test_against_the_king_by_rule_four(self):
        for middle in "SX":
            line = at("h", h="a4 c5 c3", K="c4", m="g7")
            self.check(middle, line, "a4-b4", "c4", AGAINST_MEN, 1, "slides bare four")

    def test_a_seat_with_the_king_on_it_is_against_nobody(self):
        self.check("S", at("k", m="a4", h="c4 g1", K="d4"), "a4-b4", "c4", ())
        self.check("S", at("h", h="a4", m="c4", K="d4"), "a4-b4", "c4", ())

    def test_an_armed_king_on_the_seat_is_a_piece_behind(self):
        line = at("k", m="a4", h="c4 g1", K="d4")
        self.check("S", line, "a4-b4", "c4", ENMITIES, king="slides armed two")
        self.check("S", at("h", h="a4", m="c4", K="d4"), "a4-b4", "c4", (), king="slides armed two")

    def test_an_exit_is_against_whoever_is_on_it(self):
        self.check("X", at("k", m="a4", h="c4 g1", K="d4"), "a4-b4", "c4", AGAINST_HUNTERS)
        self.check("X", at("h", h="a4", m="c4", K="d4"), "a4-b4", "c4", AGAINST_MEN)

    def test_the_seats_enmity_is_not_the_exits(self):
        text = with_middle("S", seat="barred quiet", exits="all")
        self.assertEqual(told(text, at("h", h="a4", m="c4"), "a4-b4"), [0])
        text = with_middle("X", exits="quiet")
        self.assertEqual(told(text, at("h", h="a4", m="c4"), "a4-b4"), [0])

    def test_exits_in_the_corners(self):
        for enmity in ENMITIES:
            text = cornered(exits=enmity)
            expected = [0, cell("b1")] if enmity in AGAINST_MEN else [0]
            self.assertEqual(told(text, at("h", h="c5", m="b1"), "c5-c1"), expected)


class KingTakenByTwo(unittest.TestCase):
    def test_between_two_hunters(self):
        self.assertEqual(told(open_hall(), at("h", h="a4 d4", K="c4"), "a4-b4"), [1, cell("c4")])
        self.assertEqual(told(open_hall(), at("h", h="a3 c5", K="c4"), "a3-c3"), [1, cell("c4")])

    def test_not_across_a_corner(self):
        self.assertEqual(told(open_hall(), at("h", h="a4 c5", K="c4"), "a4-b4"), [0])

    def test_not_with_his_man_or_nobody_behind(self):
        self.assertEqual(told(open_hall(), at("h", h="a4", m="d4", K="c4"), "a4-b4"), [0])
        self.assertEqual(told(open_hall(), at("h", h="a4 e4", K="c4"), "a4-b4"), [0])

    def test_not_by_his_own_move_or_another_hunters(self):
        self.assertEqual(told(open_hall(), at("k", h="b4 d4", K="c6"), "c6-c4"), [0])
        self.assertEqual(told(open_hall(), at("h", h="b4 d4 a1", K="c4"), "a1-b1"), [0])

    def test_at_the_edge(self):
        self.assertEqual(told(cornered(), at("h", h="b1", K="a4"), "b1-b4"), [0])
        self.assertEqual(told(cornered(), at("h", h="a5 b3", K="a4"), "b3-a3"), [1, cell("a4")])
        self.assertEqual(told(cornered(exits="hunters"), at("h", h="a4", K="a2"), "a4-a3"), [0])
        self.assertEqual(told(cornered(exits="all"), at("h", h="a4", K="a2"), "a4-a3"), [1, cell("a2")])
        self.assertEqual(told(cornered(exits="men"), at("h", h="d3", K="b1"), "d3-d1"), [0])
        self.assertEqual(told(cornered(exits="men"), at("h", h="c3", K="b1"), "c3-c1"), [1, cell("b1")])

    def test_against_a_wall_he_is_not_taken(self):
        self.assertEqual(told(with_middle("#"), at("h", h="a4", K="c4"), "a4-b4"), [0])

    def test_together_with_men_rising(self):
        line = at("h", h="d1 b4 f4 d6", m="c4 d5", K="e4")
        self.assertEqual(told(open_hall(), line, "d1-d4"), [1] + cells("c4 e4 d5"))


class KingTakenByFour(unittest.TestCase):
    four = "slides armed four"

    def test_four_hunters(self):
        line = at("h", h="a4 c5 d4 c3", K="c4")
        self.assertEqual(told(open_hall(king=self.four), line, "a4-b4"), [1, cell("c4")])

    def test_three_or_two_are_not_enough(self):
        self.assertEqual(told(open_hall(king=self.four), at("h", h="a4 d4 c3", K="c4"), "a4-b4"), [0])
        self.assertEqual(told(open_hall(king=self.four), at("h", h="a4 d4", K="c4"), "a4-b4"), [0])

    def test_a_man_or_a_wall_beside_him(self):
        self.assertEqual(told(open_hall(king=self.four), at("h", h="a4 d4 c3", m="c5", K="c4"), "a4-b4"), [0])
        text = with_middle("#", king=self.four)
        self.assertEqual(told(text, at("h", h="a4 c5 c3", m="g7", K="c4"), "a4-b4"), [0])
        self.assertEqual(told(text, at("h", h="a4 c5 c3", K="c4"), "a4-b4"), [3])

    def test_at_the_edge_he_is_not_taken(self):
        line = at("h", h="a5 a3 c4", m="g4", K="a4")
        self.assertEqual(told(cornered(king=self.four), line, "c4-b4"), [0])
        line = at("h", h="a5 a3 c4", K="a4")
        self.assertEqual(told(cornered(king=self.four), line, "c4-b4"), [3])
        line = at("h", h="c1 b4", m="g4", K="b1")
        self.assertEqual(told(cornered(king=self.four, exits="all"), line, "b4-b2"), [0])

    def test_beside_the_empty_seat(self):
        line = at("h", h="a4 c5 c3", m="g7", K="c4")
        for seat, over in (("barred men", 1), ("passed all", 1), ("barred hunters", 0), ("barred quiet", 0)):
            expected = [1, cell("c4")] if over else [0]
            self.assertEqual(told(with_middle("S", king=self.four, seat=seat), line, "a4-b4"), expected)

    def test_on_the_seat(self):
        line = at("h", h="a4 d5 e4 d3", K="d4")
        self.assertEqual(told(with_middle("S", king=self.four, seat="barred all"), line, "a4-c4"), [1, cell("d4")])

    def test_the_hunter_must_have_come_beside_him(self):
        line = at("h", h="a1 b4 c5 d4 c3", m="g7", K="c4")
        self.assertEqual(told(open_hall(king=self.four), line, "a1-b1"), [0])

    def test_men_are_taken_by_two_all_the_same(self):
        self.assertEqual(told(open_hall(king=self.four), at("h", h="a4 d4", m="c4"), "a4-b4"), [0, cell("c4")])


class LargestGround(unittest.TestCase):
    """All 169 numbers are cells here, so that what lies beside the ground must not be taken for one of them."""

    row = "............."
    start = " ".join([row] * 6 + ["......K......"] + [row] * 5 + ["h............"])

    def hall(self, **words):
        ground = " ".join([self.row] * 6 + ["...X........."] + [self.row] * 6)
        return hall(ground, self.start, goal="exits", **words)

    def at(self, turn, h="", m="", K="g7"):
        return line_at(13, 13, turn, h=h, m=m, K=K)

    def test_sliding_to_the_edges(self):
        for name in ("a1", "m1", "a13", "m13", "c13", "m5", "a9"):
            column, row = name[0], name[1:]
            expected = [column + str(y) for y in range(1, 14)] + [x + row for x in "abcdefghijklm"]
            expected = sorted(cells(" ".join(other for other in expected if other != name)))
            self.assertEqual(targets(self.hall(), self.at("h", h=name), name), expected, name)

    def test_nobody_is_taken_over_the_edge(self):
        for start, target, man in (("b2", "b5", "a5"), ("e3", "e2", "e1"), ("l2", "l5", "m5"), ("e10", "e12", "e13")):
            line = self.at("h", h=f"{start} m13 a1", m=man)
            self.assertEqual(told(self.hall(), line, f"{start}-{target}"), [0])

    def test_nobody_is_taken_from_the_edge_but_beside_it(self):
        for start, target in (("b5", "a5"), ("e3", "e1"), ("c12", "c13"), ("d9", "m9")):
            for h, m in (("l13", "m13"), ("m12", "m13"), ("b1", "a1"), ("a2", "a1")):
                line = self.at("h", h=f"{start} {h}", m=m)
                self.assertEqual(told(self.hall(), line, f"{start}-{target}"), [0])

    def test_the_king_at_the_edge_is_not_taken_by_four(self):
        text = self.hall(king="steps armed four")
        line = self.at("h", h="a6 a4 c5 m13", m="g7", K="a5")
        self.assertEqual(told(text, line, "c5-b5"), [0])
        line = self.at("h", h="d13 f13 e10 m13", m="g7", K="e13")
        self.assertEqual(told(text, line, "e10-e12"), [0])


class Over(unittest.TestCase):
    def test_2_on_the_edge(self):
        text = open_hall()
        line = at("k", h="g1", m="b3", K="c4")
        for target, over in (("a4", 2), ("g4", 2), ("c1", 2), ("c7", 2), ("b4", 0), ("f4", 0), ("c2", 0), ("c6", 0)):
            self.assertEqual(told(text, line, f"c4-{target}"), [over], target)
        self.assertEqual(told(text, line, "b3-b1"), [0])

    def test_2_on_an_exit(self):
        line = at("k", h="f3", K="a4")
        self.assertEqual(told(cornered(), line, "a4-a7"), [2])
        self.assertEqual(told(cornered(), line, "a4-a1"), [2])
        self.assertEqual(told(cornered(), line, "a4-a6"), [0])
        self.assertEqual(told(cornered(), line, "a4-g4"), [0])

    def test_2_with_one_taken(self):
        line = at("k", h="b1 g6", m="c1", K="a4")
        self.assertEqual(told(cornered(), line, "a4-a1"), [2, cell("b1")])

    def test_2_goes_before_3(self):
        self.assertEqual(told(cornered(), at("k", h="b1", m="c1", K="a4"), "a4-a1"), [2, cell("b1")])

    def test_3_the_last_hunter_is_taken(self):
        self.assertEqual(told(open_hall(), at("k", h="c4", m="a4 d4"), "a4-b4"), [3, cell("c4")])

    def test_3_the_hunters_are_shut_in(self):
        line = at("k", h="a7", m="a6 b1", K="c3")
        self.assertEqual(told(open_hall(), line, "b1-b7"), [3])
        self.assertEqual(told(open_hall(), line, "b1-b6"), [0])

    def test_3_the_kings_side_is_shut_in(self):
        walled = with_middle("#", king="slides armed four")
        self.assertEqual(told(walled, at("h", h="c5 c3 a4", K="c4"), "a4-b4"), [3])

    def test_3_is_told_when_the_taken_are_gone(self):
        # Both hunters are shut in; the one at d4 may go to e4 once the other is taken.
        line = at("k", h="d4 e4", m="c4 d5 d3 e5 f4 e1", K="f6")
        self.assertEqual(told(open_hall(), line, "e1-e3"), [0, cell("e4")])
        line = at("k", h="a7 b7", m="a6 b6 c4", K="d3")
        self.assertEqual(told(open_hall(), line, "c4-c7"), [3])

    def test_a_position_that_is_over_has_no_moves(self):
        for text, line in ((open_hall(), at("h", h="b4", K="")), (open_hall(), at("k", m="b4", K="")),
                           (open_hall(), at("k", h="b4", K="a5")), (open_hall(), at("h", h="b4", K="d7")),
                           (cornered(), at("k", h="b4", K="g7")), (cornered(), at("h", h="b4", K="a1")),
                           (open_hall(), at("h", m="c3")), (open_hall(), at("h", h="a7", m="a6 b7"))):
            self.assertEqual(run(("rules", text), ("moves", line))[1], [0, 0], line)


class Answer(unittest.TestCase):
    def test_the_counts_and_rows_as_numbers(self):
        text = hall("##.## #...# ..... #...# ##.#X", "..... ..... ..K.. .h... .....", goal="exits")
        self.assertEqual(run(("rules", text), ("moves", "5/5/h1K2/5/5 h"))[1], [0, 1, 3, 26, 27, 0])
        self.assertEqual(run(("rules", text), ("moves", "5/5/h1Kh1/5/5 h"))[1],
                         [0, 4, 4, 26, 27, 1, 28, 3, 29, 16, 0, 3, 29, 30, 0, 3, 29, 42, 0])

    def test_no_rules(self):
        self.assertEqual(run(("moves", "5/5/2K2/5/h4 h")), [[-3]])


if __name__ == "__main__":
    unittest.main()
