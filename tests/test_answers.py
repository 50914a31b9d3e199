"""The interface: calls in one list, counts before each answer, nothing changed, kept or printed."""

import builtins
import contextlib
import io
import sys
import unittest
from unittest import mock

import kinghalldesk.board
from kinghalldesk.board import answers
from tests.helper import handed_in, plain_hall, row_of

HALL = plain_hall(5, 5)
OTHER = plain_hall(6, 5, first="king")
LINE = "5/5/2K2/5/h4 h"
BEGIN = [0, 14] + list(LINE.encode())
CALLS = handed_in([("begin",), ("over", LINE), ("moves", "?"), ("rules", "tafl "), ("rules", HALL), ("begin",),
                   ("over", LINE), ("over", "5/5/5/5/h4 k"), ("moves", "5/5/2K2/5/5 h"), ("rules", ""),
                   ("over", "5/5/"), ("moves", "5/5/2K2/5/4"), ("rules", OTHER), ("over", LINE), ("begin",)])
OTHER_BEGIN = "6/6/3K2/6/h5 k"
TOLD = ([1, -3] + [1, -3] + [1, -3] + [3, -6, 1, 5] + [1, 0] + [16] + BEGIN + [1, 0] + [1, 1] + [2, 0, 0]
        + [3, -6, 1, 0] + [3, -5, 1, 4] + [3, -5, 1, 11] + [1, 0] + [3, -5, 1, 1]
        + [16, 0, 14] + list(OTHER_BEGIN.encode()))


class Answers(unittest.TestCase):
    def test_several_calls_in_one_list(self):
        self.assertEqual(answers(list(CALLS)), TOLD)

    def test_one_call(self):
        self.assertEqual(answers([1]), [1, -3])
        self.assertEqual(answers([2, 0]), [1, -3])
        self.assertEqual(answers([3, 2, 255, 0]), [1, -3])
        self.assertEqual(answers([0, 0]), [3, -6, 1, 0])
        self.assertEqual(answers([0] + row_of(HALL)), [1, 0])

    def test_the_rows_numbers_are_not_taken_for_calls(self):
        self.assertEqual(answers([0, 4, 1, 1, 1, 1, 1]), [3, -6, 1, 0, 1, -3])
        self.assertEqual(answers([2, 3, 0, 1, 2, 1]), [1, -3, 1, -3])

    def test_what_is_handed_in_stays_as_it_was(self):
        class Watched(list):
            def refuse(self, *told):
                raise AssertionError("what is handed in is changed")
            append = clear = extend = insert = pop = remove = reverse = sort = refuse
            __setitem__ = __delitem__ = __iadd__ = __imul__ = refuse

        calls = Watched(CALLS)
        self.assertEqual(answers(calls), TOLD)
        self.assertEqual(list(calls), CALLS)

    def test_nothing_is_kept_from_one_time_to_the_next(self):
        answers([0] + row_of(HALL))
        self.assertEqual(answers([1]), [1, -3])
        for _ in range(3):
            self.assertEqual(answers(list(CALLS)), TOLD)

    def test_what_is_given_back_may_be_changed_freely(self):
        answers(list(CALLS)).clear()
        self.assertEqual(answers(list(CALLS)), TOLD)

    def test_whole_numbers_in_a_list(self):
        told = answers(list(CALLS))
        self.assertIs(type(told), list)
        self.assertEqual({type(number) for number in told}, {int})
        told = answers([0] + row_of(HALL) + [3] + row_of(LINE))
        self.assertEqual({type(number) for number in told}, {int})

    def test_nothing_is_printed_read_or_imported(self):
        def refuse(*told, **more):
            raise AssertionError("something is read or imported")
        known = set(sys.modules)
        said = io.StringIO()
        with contextlib.redirect_stdout(said), contextlib.redirect_stderr(said), \
                mock.patch.object(builtins, "open", refuse), mock.patch.object(builtins, "input", refuse), \
                mock.patch.object(builtins, "__import__", refuse):
            told = answers(list(CALLS))
        self.assertEqual(told, TOLD)
        self.assertEqual(said.getvalue(), "")
        self.assertEqual(set(sys.modules), known)

    def test_three_hundred_calls_and_the_longest_list(self):
        many = [0] + row_of(HALL) + ([3] + row_of(LINE)) * 299
        one = answers([0] + row_of(HALL) + [3] + row_of(LINE))[2:]
        self.assertEqual(answers(many), [1, 0] + one * 299)
        longest = [2] + row_of("h" * 1000)
        self.assertEqual(answers([0] + row_of(HALL) + longest * 28), [1, 0] + [3, -5, 1, 5] * 28)

    def test_the_function_is_where_the_document_says(self):
        self.assertTrue(callable(kinghalldesk.board.answers))


if __name__ == "__main__":
    unittest.main()
