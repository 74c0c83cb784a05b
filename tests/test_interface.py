import builtins
import contextlib
import io
import unittest
from unittest import mock

from firewatchdesk.watch import answers
from tests.line import HIGHEST

SERVED = [0, 2, 1, 1, 1, 2, 1, 2, 1, 2, 9, 50, 2]
SERVED_ANSWERS = [1, 0, 1, 0, 1, 1, 5, 9, 11, 1, 1, 0]
REFUSED = [0, 5, 1, 1, 1, 1, 1, 0, 1, HIGHEST, 0, 1, 1, 1, 0, 1, 1, 1002, 2]
REFUSED_ANSWERS = [1, -1, 1, -1, 1, 0, 1, -1, 1, -1, 1, -6]


class AnswersTest(unittest.TestCase):
    def test_each_answer_stands_behind_how_many_numbers_it_has(self):
        self.assertEqual(answers(SERVED), SERVED_ANSWERS)
        self.assertEqual(answers([0, 0]), [1, 0])
        self.assertEqual(answers([1, 0]), [1, 0])
        self.assertEqual(answers([2]), [3, 0, 0, 1])
        self.assertEqual(answers([2, 1, 0, 2]), [3, 0, 0, 1, 1, 0, 4, 0, 0, 1, 0])

    def test_a_refusal_is_one_number_alone(self):
        self.assertEqual(answers(REFUSED), REFUSED_ANSWERS)

    def test_a_refused_row_is_passed_over_whole(self):
        self.assertEqual(answers([0, 6, 2, 2, 2, 2, 2, 2, 2]), [1, -1, 3, 0, 0, 1])
        self.assertEqual(answers([1, 6, 2, 2, 2, 2, 2, 2, 2]), [1, -1, 3, 0, 0, 1])

    def test_gives_back_a_list_of_whole_numbers(self):
        for calls in (SERVED, REFUSED, [2]):
            given = answers(calls)
            self.assertIs(type(given), list)
            self.assertEqual({type(number) for number in given}, {int})

    def test_what_is_handed_in_is_not_changed(self):
        for calls in (SERVED, REFUSED):
            handed = list(calls)
            answers(handed)
            self.assertEqual(handed, calls)

    def test_what_is_handed_in_is_not_changed_for_a_while_either(self):
        class Watched(list):
            def refuse(self, *changes):
                raise AssertionError("what is handed in was changed")

            append = clear = extend = insert = pop = remove = reverse = sort = refuse
            __setitem__ = __delitem__ = __iadd__ = __imul__ = refuse

        self.assertEqual(answers(Watched(SERVED)), SERVED_ANSWERS)
        self.assertEqual(answers(Watched(REFUSED)), REFUSED_ANSWERS)

    def test_nothing_is_kept_from_one_time_to_the_next(self):
        for turn in range(3):
            self.assertEqual(answers(SERVED), SERVED_ANSWERS)
            self.assertEqual(answers([2]), [3, 0, 0, 1])
            self.assertEqual(answers(REFUSED), REFUSED_ANSWERS)
            self.assertEqual(answers([1, 0]), [1, 0])

    def test_what_was_given_back_may_be_changed(self):
        given = answers(SERVED)
        given.clear()
        self.assertEqual(answers(SERVED), SERVED_ANSWERS)

    def test_prints_reads_and_imports_nothing(self):
        printed = io.StringIO()
        forbidden = AssertionError("nothing is read or imported")
        with contextlib.redirect_stdout(printed), contextlib.redirect_stderr(printed), \
                mock.patch.object(builtins, "open", side_effect=forbidden), \
                mock.patch.object(builtins, "input", side_effect=forbidden), \
                mock.patch.object(builtins, "__import__", side_effect=forbidden):
            given = answers(SERVED) + answers(REFUSED)
        self.assertEqual(given, SERVED_ANSWERS + REFUSED_ANSWERS)
        self.assertEqual(printed.getvalue(), "")


if __name__ == "__main__":
    unittest.main()
