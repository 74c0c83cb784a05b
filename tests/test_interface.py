import builtins
import contextlib
import io
import unittest
from unittest import mock

from firewatchdesk.watch import answers
from tests.line import HIGHEST

SERVED = [0, 2, 1, 1, 1, 2, 1, 2, 1, 2, 9, 50, 2]
SERVED_ANSWERS = [1, 0, 1, 0, 1, 1, 5, 9, 11, 1, 1, 0]
ALL_SIX = [5, 3, 0, 2, 1, 1, 1, 2, 1, 2, 4, 1, 0, 1, 2, 9, 50, 3, 4, 2, 0, 1, 2, 5, 8]
ALL_SIX_ANSWERS = [2, 0, 0, 1, 0, 1, 0, 3, -7, 1, 0, 1, 1, 5, 11, 9, 1, 1, 0, 2, 50, 51, 5, 9, 11, 1, 1, 0, 3, 1, 3, 0]
REFUSED = [0, 5, 1, 1, 1, 1, 1, 0, 1, HIGHEST, 0, 1, 1, 1, 0, 1, 1, 1002, 2, 3, 4, 1, 0, 5, 1001, 5, HIGHEST]
REFUSED_ANSWERS = [1, -1, 1, -1, 1, 0, 1, -1, 1, -1, 1, -6, 1, -6, 1, -1, 1, -1, 1, -1]
LINES = ((SERVED, SERVED_ANSWERS), (ALL_SIX, ALL_SIX_ANSWERS), (REFUSED, REFUSED_ANSWERS))


class AnswersTest(unittest.TestCase):
    def test_each_answer_stands_behind_how_many_numbers_it_has(self):
        self.assertEqual(answers(SERVED), SERVED_ANSWERS)
        self.assertEqual(answers([0, 0]), [1, 0])
        self.assertEqual(answers([1, 0]), [1, 0])
        self.assertEqual(answers([2]), [3, 0, 0, 1])
        self.assertEqual(answers([2, 1, 0, 2]), [3, 0, 0, 1, 1, 0, 4, 0, 0, 1, 0])
        self.assertEqual(answers([3]), [3, 0, 0, 1])
        self.assertEqual(answers([4, 0]), [2, 0, 0])
        self.assertEqual(answers([5, 0]), [2, 0, 0])
        self.assertEqual(answers(ALL_SIX), ALL_SIX_ANSWERS)

    def test_a_refusal_is_one_number_alone(self):
        self.assertEqual(answers(REFUSED), REFUSED_ANSWERS)

    def test_of_check_the_engine_or_the_fire_stands_behind_the_refusal(self):
        self.assertEqual(answers([0, 1, 1, 1, 1, 1001, 4, 1, 0, 4, 1, 1]), [1, 0, 1, 0, 2, -6, 0, 3, -7, 0, 0])

    def test_minutes_of_why_are_not_taken_for_a_call_or_a_count(self):
        for minutes in range(6):
            self.assertEqual(answers([5, minutes, 2, 5, minutes, 4, 0]), [2, 0, 0, 3, 0, 0, 1, 2, 0, 0, 2, 0, 0])
        self.assertEqual(answers([5, 1001, 3]), [1, -1, 3, 0, 0, 1])

    def test_a_refused_row_is_passed_over_whole(self):
        self.assertEqual(answers([4, 12] + [2] * 13), [1, -1, 3, 0, 0, 1])
        self.assertEqual(answers([0, 6, 2, 2, 2, 2, 2, 2, 2]), [1, -1, 3, 0, 0, 1])
        self.assertEqual(answers([1, 6, 2, 2, 2, 2, 2, 2, 2]), [1, -1, 3, 0, 0, 1])

    def test_gives_back_a_list_of_whole_numbers(self):
        for calls in (SERVED, ALL_SIX, REFUSED, [2], [3], [4, 0], [5, 0]):
            given = answers(calls)
            self.assertIs(type(given), list)
            self.assertEqual({type(number) for number in given}, {int})

    def test_what_is_handed_in_is_not_changed(self):
        for calls, given in LINES:
            handed = list(calls)
            self.assertEqual(answers(handed), given)
            self.assertEqual(handed, calls)

    def test_what_is_handed_in_is_not_changed_for_a_while_either(self):
        class Watched(list):
            def refuse(self, *changes):
                raise AssertionError("what is handed in was changed")

            append = clear = extend = insert = pop = remove = reverse = sort = refuse
            __setitem__ = __delitem__ = __iadd__ = __imul__ = refuse

        for calls, given in LINES:
            self.assertEqual(answers(Watched(calls)), given)

    def test_nothing_is_kept_from_one_time_to_the_next(self):
        for turn in range(3):
            for calls, given in LINES:
                self.assertEqual(answers(calls), given)
                self.assertEqual(answers([2, 3, 4, 0, 5, 9]), [3, 0, 0, 1, 3, 0, 0, 1, 2, 0, 0, 2, 0, 0])
                self.assertEqual(answers([1, 0]), [1, 0])

    def test_what_was_given_back_may_be_changed(self):
        given = answers(SERVED)
        given.clear()
        self.assertEqual(answers(SERVED), SERVED_ANSWERS)

    def test_prints_reads_and_imports_nothing(self):
        printed = io.StringIO()
        forbidden = AssertionError("nothing is read or imported")
        with contextlib.redirect_stdout(printed), contextlib.redirect_stderr(printed), \
                mock.patch.object(builtins, "open", side_effect=forbidden), \
                mock.patch.object(builtins, "input", side_effect=forbidden), \
                mock.patch.object(builtins, "__import__", side_effect=forbidden):
            given = answers(SERVED) + answers(ALL_SIX) + answers(REFUSED)
        self.assertEqual(given, SERVED_ANSWERS + ALL_SIX_ANSWERS + REFUSED_ANSWERS)
        self.assertEqual(printed.getvalue(), "")


if __name__ == "__main__":
    unittest.main()
