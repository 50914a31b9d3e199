"""The interface: calls in one list, counts before each answer, nothing changed, kept or printed."""

import builtins
import contextlib
import io
import sys
import unittest
from unittest import mock

import kinghalldesk.board
from kinghalldesk.board import answers
from tests.helper import HIGHEST, after_rules, handed_in, plain_hall, row_of, run

HALL = plain_hall(5, 5)
OTHER = plain_hall(6, 5, first="king")
LINE = "5/5/2K2/5/h4 h"
TAKES = "5/5/h1Kh1/5/5 h"
OTHER_LINE = "6/6/3K2/6/h5 k"
# Each call with its answer, told by hand: all eight numbers, before and behind rules, refused and not.
TOLD_CALLS = (
    (("begin",), [-3]), (("over", LINE), [-3]), (("moves", "?"), [-3]), (("make", 0, 13, LINE), [-3]),
    (("write", 0, 13, LINE), [-3]), (("read", LINE, "a1-a2"), [-3]), (("deep", 0, 0, LINE), [-3]),
    (("rules", "tafl "), [-6, 1, 5]), (("rules", HALL), [0]),
    (("begin",), [0] + row_of(LINE)), (("over", LINE), [0]), (("over", "5/5/5/5/h4 k"), [1]),
    (("moves", "5/5/2K2/5/5 h"), [0, 0]),
    (("moves", LINE), [0, 8, 3, 0, 1, 0, 3, 0, 2, 0, 3, 0, 3, 0, 3, 0, 4, 0,
                       3, 0, 13, 0, 3, 0, 26, 0, 3, 0, 39, 0, 3, 0, 52, 0]),
    (("make", 0, 13, LINE), [0] + row_of("5/5/2K2/h4/5 k") + [0]), (("make", 13, 0, LINE), [-2]),
    (("make", 26, 27, TAKES), [1] + row_of("5/5/1h1h1/5/5 k") + [1, 28]),
    (("write", 26, 27, TAKES), [0] + row_of("a3-b3xc3#1")), (("write", HIGHEST, 0, TAKES), [-2]),
    (("read", TAKES, "a3-b3xc3#1"), [0, 4, 26, 27, 1, 28]), (("read", TAKES, "a3-b3xc3"), [-4, 8]),
    (("read", LINE, ""), [-4, 0]), (("deep", 1, 8, LINE), [0, 1, 8]), (("deep", 1, 7, LINE), [-9]),
    (("deep", 7, 8, LINE), [-1]), (("rules", ""), [-6, 1, 0]),
    (("over", "5/5/"), [-5, 1, 4]), (("moves", "5/5/2K2/5/4"), [-5, 1, 11]), (("make", 0, 0, ""), [-5, 1, 0]),
    (("rules", OTHER), [0]), (("over", LINE), [-5, 1, 1]), (("begin",), [0] + row_of(OTHER_LINE)),
)
CALLS = handed_in([call for call, told in TOLD_CALLS])
TOLD = [number for call, told in TOLD_CALLS for number in [len(told)] + told]


class Answers(unittest.TestCase):
    def test_several_calls_in_one_list(self):
        self.assertEqual(answers(list(CALLS)), TOLD)

    def test_one_call(self):
        self.assertEqual(answers([1]), [1, -3])
        self.assertEqual(answers([2, 0]), [1, -3])
        self.assertEqual(answers([3, 2, 255, 0]), [1, -3])
        self.assertEqual(answers([0, 0]), [3, -6, 1, 0])
        self.assertEqual(answers([0] + row_of(HALL)), [1, 0])
        self.assertEqual(answers([4, HIGHEST, 0, 0]), [1, -3])
        self.assertEqual(answers([5, 0, HIGHEST, 1, 4]), [1, -3])
        self.assertEqual(answers([6, 0, 0]), [1, -3])
        self.assertEqual(answers([7, 6, 2000, 0]), [1, -3])

    def test_the_rows_numbers_are_not_taken_for_calls(self):
        self.assertEqual(answers([0, 4, 1, 1, 1, 1, 1]), [3, -6, 1, 0, 1, -3])
        self.assertEqual(answers([2, 3, 0, 1, 2, 1]), [1, -3, 1, -3])
        self.assertEqual(answers([4, 1, 1, 2, 1, 1, 1]), [1, -3, 1, -3])
        self.assertEqual(answers([5, 1, 1, 0, 1]), [1, -3, 1, -3])
        self.assertEqual(answers([6, 1, 1, 2, 1, 1, 1]), [1, -3, 1, -3])
        self.assertEqual(answers([7, 1, 1, 1, 1, 1]), [1, -3, 1, -3])

    def test_the_numbers_stand_before_the_rows(self):
        known = [0] + row_of(HALL)
        self.assertEqual(answers(known + [5, 0, 39] + row_of(LINE))[2:], [7, 0] + row_of("a1-a4"))
        self.assertEqual(answers(known + [5, 39, 0] + row_of(LINE))[2:], [1, -2])
        self.assertEqual(answers(known + [6] + row_of(LINE) + row_of("a1-a4"))[2:], [5, 0, 3, 0, 39, 0])
        self.assertEqual(answers(known + [6] + row_of("a1-a4") + row_of(LINE))[2:], [3, -5, 1, 0])
        self.assertEqual(answers(known + [7, 1, 8] + row_of(LINE))[2:], [3, 0, 1, 8])
        self.assertEqual(answers(known + [7, 8, 1] + row_of(LINE))[2:], [1, -1])

    def test_what_is_handed_in_stays_as_it_was(self):
        class Watched(list):
            def refuse(self, *told):
                raise AssertionError("what is handed in is changed")
            append = clear = extend = insert = pop = remove = reverse = sort = refuse
            __setitem__ = __delitem__ = __iadd__ = __imul__ = refuse

        calls = Watched(CALLS)
        self.assertEqual(answers(calls), TOLD)
        self.assertEqual(list(calls), CALLS)

    def test_nothing_is_kept_from_one_time_to_the_next(self):
        answers([0] + row_of(HALL))
        self.assertEqual(answers([1]), [1, -3])
        for _ in range(3):
            self.assertEqual(answers(list(CALLS)), TOLD)

    def test_what_is_given_back_may_be_changed_freely(self):
        answers(list(CALLS)).clear()
        self.assertEqual(answers(list(CALLS)), TOLD)

    def test_whole_numbers_in_a_list(self):
        told = answers(list(CALLS))
        self.assertIs(type(told), list)
        self.assertEqual({type(number) for number in told}, {int})
    def test_nothing_is_printed_read_or_imported(self):
        def refuse(*told, **more):
            raise AssertionError("something is read or imported")
        known = set(sys.modules)
        said = io.StringIO()
        with contextlib.redirect_stdout(said), contextlib.redirect_stderr(said), \
                mock.patch.object(builtins, "open", refuse), mock.patch.object(builtins, "input", refuse), \
                mock.patch.object(builtins, "__import__", refuse):
            told = answers(list(CALLS))
        self.assertEqual(told, TOLD)
        self.assertEqual(said.getvalue(), "")
        self.assertEqual(set(sys.modules), known)

    def test_three_hundred_calls(self):
        calls = [("begin",), ("over", LINE), ("moves", LINE), ("make", 0, 13, LINE), ("write", 0, 26, LINE),
                 ("read", LINE, "a1-a5"), ("deep", 1, 2000, LINE), ("make", 1, 13, LINE), ("read", LINE, "a1-a"),
                 ("deep", 6, 2000, LINE), ("deep", 0, 1, LINE), ("rules", HALL)]
        each = [after_rules(HALL, *call) for call in calls]
        many = [("rules", HALL)] + calls * 24 + calls[:11]
        self.assertEqual(len(many), 300)
        self.assertLessEqual(len(handed_in(many)), 30000)
        self.assertEqual(run(*many), [[0]] + each * 24 + each[:11])

    def test_the_longest_list(self):
        for call, told in (([2], [3, -5, 1, 5]), ([4, 0, 1], [3, -5, 1, 5]), ([7, 1, 1], [3, -5, 1, 5])):
            longest = call + row_of("h" * 1000)
            self.assertEqual(answers([0] + row_of(HALL) + longest * 28), [1, 0] + told * 28)
        longest = [6] + row_of(LINE) + row_of("a1-a5" * 200)
        self.assertEqual(answers([0] + row_of(HALL) + longest * 28), [1, 0] + [2, -4, 5] * 28)

    def test_the_function_is_where_the_document_says(self):
        self.assertTrue(callable(kinghalldesk.board.answers))


class RefusedCalls(unittest.TestCase):
    """Behind each refused call, all answers are as they were before it."""

    refused = (
        (("rules", ""), -6), (("rules", OTHER[:-1]), -6), (("rules", OTHER.replace("K", "h")), -6),
        (("over", "5"), -5), (("moves", OTHER_LINE), -5), (("make", 0, 1, "5/5/2K2/5/h4"), -5),
        (("write", 0, 1, ""), -5), (("read", LINE + " ", "a1-a2"), -5), (("deep", 1, 2000, "?"), -5),
        (("make", 0, 0, LINE), -2), (("make", 28, 27, LINE), -2), (("make", HIGHEST, HIGHEST, LINE), -2),
        (("write", 0, 14, LINE), -2), (("write", HIGHEST, 0, LINE), -2), (("read", LINE, ""), -4),
        (("read", LINE, "a1-a2#1"), -4), (("read", LINE, "a" * 1000), -4), (("deep", 0, 2000, LINE), -1),
        (("deep", 1, 2001, LINE), -1), (("deep", 6, 2000, LINE), -9), (("deep", 1, 1, LINE), -9),
    )
    asked = (("begin",), ("over", LINE), ("moves", LINE), ("moves", TAKES), ("make", 26, 27, TAKES),
             ("write", 26, 27, TAKES), ("read", TAKES, "a3-b3xc3#1"), ("deep", 2, 2000, LINE))

    def test_after_each(self):
        for call, number in self.refused:
            told = run(("rules", HALL), *self.asked, call, *self.asked)
            half = len(self.asked)
            self.assertEqual(told[1 + half][0], number, call)
            self.assertEqual(told[1:1 + half], told[2 + half:], call)
            self.assertTrue(all(answer[0] >= 0 for answer in told[1:1 + half]), call)

    def test_after_all_of_them(self):
        told = run(("rules", HALL), *[call for call, number in self.refused], *self.asked)
        self.assertEqual([answer[0] for answer in told[1:-len(self.asked)]], [number for call, number in self.refused])
        self.assertEqual(told[-len(self.asked):], [after_rules(HALL, *call) for call in self.asked])

    def test_calls_that_are_not_refused_change_nothing_but_rules(self):
        told = run(("rules", HALL), *self.asked, *self.asked)
        half = len(self.asked)
        self.assertEqual(told[1:1 + half], told[1 + half:])

    def test_rules_refused_before_there_are_any(self):
        for call, number in self.refused[:3]:
            self.assertEqual(run(call, ("begin",), ("deep", 1, 1, LINE))[1:], [[-3], [-3]])


if __name__ == "__main__":
    unittest.main()
