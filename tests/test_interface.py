import contextlib
import io
import sys
import unittest

import leastparted.desk
from leastparted.desk import answers
from tests.helper import LAID, LOOK, TOP, ask

LINE = [number for call in LAID + LOOK for number in call]


class Interface(unittest.TestCase):
    def test_it_is_there_by_its_name(self):
        self.assertIs(leastparted.desk.answers, answers)
        self.assertEqual(answers(calls=[3]), [4, 0, 2, 0, 0])

    def test_each_answer_stands_behind_its_count(self):
        self.assertEqual(answers([0, 3]), [1, 0])
        self.assertEqual(answers([0, 8]), [1, -1])
        self.assertEqual(answers([0, 3, 3, 5, 4, 4, 4, 5]), [1, 0, 5, 0, 5, 0, 0, 0, 2, 0, 0, 4, 0, 0, 1, 2, 1, -5])
        self.assertEqual(answers([1, 1, 2, 7, 3, 2, 2, 1, 2, 5]), [1, 0, 1, 0, 4, 0, 1, 1, 2])
        self.assertEqual(answers([1, 1, 3, 7, 3, 2, 1, 2, 3, 3]), [1, -3, 1, -1, 4, 0, 2, 0, 0])

    def test_each_later_answer_stands_behind_its_count(self):
        self.assertEqual(answers([6, 1, 2, 6, 1, 1]), [4, 1, 0, 1, 0, 1, -3])
        self.assertEqual(answers([2, 1, 2, 1, 6, 1, 2]), [1, 0, 3, 1, 0, 0])
        self.assertEqual(answers([2, 1, 2, 2, 6, 1, 2]), [1, 0, 3, 0, 1, 0])
        self.assertEqual(answers([7, 2, 5, 5, 7, 0, 7, 1, 7]), [4, 0, 1, 0, 0, 1, -1, 1, -1])
        self.assertEqual(answers([8, 0, 8, 1]), [4, 0, 1, 0, 0, 4, 0, 1, 0, 1])
        self.assertEqual(answers([9, 10, 1, 11]), [4, 0, 0, 0, 1, 1, 0, 4, 2, 0, 0, 0])
        self.assertEqual(answers([10, 3, 10, 0, 11]), [1, -3, 1, -3, 4, 2, 0, 0, 0])

    def test_numbers_that_look_like_calls_are_taken_as_numbers(self):
        self.assertEqual(answers([4, 3, 4, 4, 4, 0]), [1, -5, 1, -5, 3, 0, 0, 0])
        self.assertEqual(answers([8, 11, 7, 2, 7, 2, 10, 10, 6, 9, 9]), [4, 0, 1, 0, 1, 4, 0, 1, 0, 1, 1, -3, 1, -3])
        self.assertEqual(answers([7, 4, 11, 11, 11, 11, 11]), [1, -1, 4, 2, 0, 0, 0])

    def test_sixty_calls(self):
        self.assertEqual(answers([3] * 60), [4, 0, 2, 0, 0] * 60)
        told = answers([0, 7] + [5, 3] * 29 + [3])
        self.assertEqual(len(told), 2 + 29 * 3 + 30 * 10)
        self.assertEqual(answers([0, 7] + [11] * 59), [1, 0] + ([64, 7] + [0] * 63) * 59)

    def test_the_longest_list(self):
        self.assertEqual(answers(([7, 100] + [0] * 100) * 60), [1, -1] * 60)
        self.assertEqual(answers(([7, 100] + [TOP] * 100) * 59 + [11]), [1, -1] * 59 + [4, 2, 0, 0, 0])

    def test_the_highest_numbers(self):
        told = ask([0, TOP], [1, TOP, TOP, TOP, TOP], [2, TOP, TOP, TOP], [4, TOP], [1, 1, 2, TOP, TOP], [2, 1, 2, TOP])
        self.assertEqual(told, [[-1], [-3], [-3], [-5], [-1], [-1]])
        told = ask([6, TOP, TOP], [6, 1, TOP], [7, 2, TOP, TOP], [7, 2, 0, TOP], [8, TOP], [10, TOP], [11])
        self.assertEqual(told, [[-3], [-3], [-1], [-1], [0, 1, 0, 1], [-3], [2, 0, 0, 0]])

    def test_a_list_of_whole_numbers(self):
        told = answers(list(LINE))
        self.assertIs(type(told), list)
        self.assertEqual({type(number) for number in told}, {int})

    def test_what_is_handed_in_stays_as_it_was(self):
        calls = list(LINE)
        answers(calls)
        self.assertEqual(calls, LINE)

    def test_what_is_handed_in_is_not_changed_for_a_while(self):
        class Watched(list):
            def refuse(self, *given):
                raise AssertionError("the list that was handed in is changed")

            append = extend = insert = pop = remove = clear = sort = reverse = refuse
            __setitem__ = __delitem__ = __iadd__ = __imul__ = refuse

        self.assertEqual(answers(Watched(LINE)), answers(list(LINE)))

    def test_nothing_is_kept_from_one_time_to_the_next(self):
        new = answers([3, 5, 4, 1, 11])
        once = answers(list(LINE))
        self.assertEqual(answers([3, 5, 4, 1, 11]), new)
        self.assertEqual(answers([11]), [4, 2, 0, 0, 0])
        self.assertEqual(answers(list(LINE)), once)

    def test_changing_an_answer_changes_no_other(self):
        first = answers(list(LINE))
        kept = list(first)
        first.clear()
        self.assertEqual(answers(list(LINE)), kept)

    def test_prints_reads_and_imports_nothing(self):
        class Silent(io.StringIO):
            def read(self, *given):
                raise AssertionError("something is read")

            readline = __next__ = read

        known = set(sys.modules)
        out, err, stdin = io.StringIO(), io.StringIO(), sys.stdin
        sys.stdin = Silent()
        try:
            with contextlib.redirect_stdout(out), contextlib.redirect_stderr(err):
                answers(list(LINE))
        finally:
            sys.stdin = stdin
        self.assertEqual((out.getvalue(), err.getvalue()), ("", ""))
        self.assertEqual(set(sys.modules), known)
