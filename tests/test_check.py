import unittest
from itertools import product

from tests.line import (HIGHEST, NO_WAY, ask, begins, check, check_by_words, engine, last_answer, least, soonest,
                        watch_line)

TWO_FIRES = ([1, 1], [[3, 8], [NO_WAY, 5], [4, NO_WAY]])


def ask_check(needs, engines, *plan):
    return last_answer(*watch_line(needs, engines), check(*plan))


class RightPlanTest(unittest.TestCase):
    def test_tells_when_the_last_one_is_there_then_what_is_driven(self):
        self.assertEqual(ask_check(*TWO_FIRES, 0, 1, 2), [5, 8])
        self.assertEqual(ask_check(*TWO_FIRES, 1, 2, 0), [8, 12])
        self.assertEqual(ask_check(*TWO_FIRES, 2, 1, 0), [5, 9])

    def test_need_not_be_the_best(self):
        self.assertEqual(ask_check([1], [[1], [1000]], 1, 0), [1000, 1000])

    def test_all_six_are_sent(self):
        self.assertEqual(ask_check([6], [[1], [2], [3], [1000], [4], [5]], 0, 0, 0, 0, 0, 0), [1000, 1015])
        self.assertEqual(ask_check([2, 2, 1, 1], [[1000] * 4] * 6, 3, 0, 1, 0, 2, 1), [1000, 6000])

    def test_no_engine_is_sent(self):
        self.assertEqual(ask_check([0], [[7]], 1), [0, 0])
        self.assertEqual(ask_check([0, 0, 0], [[7, 7, 7], [NO_WAY] * 3], 3, 3), [0, 0])

    def test_there_are_no_engines(self):
        self.assertEqual(ask(check()), [[0, 0]])
        self.assertEqual(ask_check([0, 0], []), [0, 0])

    def test_there_are_no_fires(self):
        self.assertEqual(ask_check([], [[], []], 0, 0), [0, 0])

    def test_minutes_of_nought_are_a_way(self):
        self.assertEqual(ask_check([1, 1], [[0, 5], [5, 0]], 0, 1), [0, 0])

    def test_one_that_stays_needs_no_way(self):
        self.assertEqual(ask_check([1], [[NO_WAY], [6]], 1, 0), [6, 6])


class WrongNumbersTest(unittest.TestCase):
    def test_refuses_too_few_and_too_many_numbers(self):
        for engines in range(7):
            for numbers in range(13):
                with self.subTest(engines=engines, numbers=numbers):
                    answer = ask_check([0], [[5]] * engines, *[1] * numbers)
                    self.assertEqual(answer, [0, 0] if numbers == engines else [-1])

    def test_refuses_a_number_above_the_number_of_fires_wherever_it_stands(self):
        for wrong in (3, 4, 5, 1001, HIGHEST):
            for plan in ([wrong, 1, 0], [0, wrong, 2], [0, 1, wrong]):
                with self.subTest(plan=plan):
                    self.assertEqual(ask_check(*TWO_FIRES, *plan), [-1])

    def test_takes_the_number_of_fires_itself_as_staying(self):
        for fires in range(5):
            with self.subTest(fires=fires):
                self.assertEqual(ask_check([0] * fires, [[9] * fires], fires), [0, 0])
                self.assertEqual(ask_check([0] * fires, [[9] * fires], fires + 1), [-1])

    def test_goes_ahead_of_an_engine_without_a_way(self):
        self.assertEqual(ask_check(*TWO_FIRES, 0, 0), [-1])
        self.assertEqual(ask_check(*TWO_FIRES, 0, 0, 1, 2), [-1])
        self.assertEqual(ask_check(*TWO_FIRES, 0, 0, 3), [-1])

    def test_goes_ahead_of_a_wrong_number_sent(self):
        self.assertEqual(ask_check([2], [[1], [1]], 0), [-1])
        self.assertEqual(ask_check([2], [[1], [1]], 0, HIGHEST), [-1])
        self.assertEqual(ask_check([1], []), [-7, 0, 0])
        self.assertEqual(ask_check([1], [], 0), [-1])

    def test_is_refused_when_there_are_no_engines(self):
        self.assertEqual(ask(check(0), check(*[0] * 12), check(HIGHEST)), [[-1], [-1], [-1]])


class NotRightTest(unittest.TestCase):
    def test_tells_the_first_engine_that_has_no_way(self):
        self.assertEqual(ask_check([1], [[NO_WAY]], 0), [-6, 0])
        self.assertEqual(ask_check(*TWO_FIRES, 1, 0, 2), [-6, 1])
        self.assertEqual(ask_check(*TWO_FIRES, 0, 2, 1), [-6, 2])
        self.assertEqual(ask_check(*TWO_FIRES, 2, 0, 1), [-6, 1])
        self.assertEqual(ask_check([6], [[1]] * 5 + [[NO_WAY]], *[0] * 6), [-6, 5])

    def test_a_thousand_minutes_are_a_way(self):
        self.assertEqual(ask_check([1], [[1000]], 0), [1000, 1000])

    def test_tells_no_way_ahead_of_a_wrong_number_sent(self):
        self.assertEqual(ask_check([2], [[1], [NO_WAY], [1]], 0, 0, 0), [-6, 1])
        self.assertEqual(ask_check([3, 0], [[1, 1], [1, NO_WAY]], 1, 1), [-6, 1])

    def test_tells_too_few_sent(self):
        self.assertEqual(ask_check([2], [[1], [1]], 0, 1), [-7, 0, 1])
        self.assertEqual(ask_check([1], [[1], [1]], 1, 1), [-7, 0, 0])
        self.assertEqual(ask_check([1, 2], [[1, 1]] * 3, 0, 1, 2), [-7, 1, 1])

    def test_tells_too_many_sent(self):
        self.assertEqual(ask_check([1], [[1], [1]], 0, 0), [-7, 0, 2])
        self.assertEqual(ask_check([0, 0, 0, 0], [[1] * 4] * 6, *[3] * 6), [-7, 3, 6])
        self.assertEqual(ask_check([1, 0], [[1, 1]] * 2, 0, 1), [-7, 1, 1])

    def test_tells_the_first_such_fire_alone(self):
        self.assertEqual(ask_check([1, 1, 1], [[1, 1, 1]] * 3, 0, 2, 2), [-7, 1, 0])
        self.assertEqual(ask_check([1, 1, 1], [[1, 1, 1]] * 3, 1, 1, 2), [-7, 0, 0])
        self.assertEqual(ask_check([1, 1, 1], [[1, 1, 1]] * 3, 2, 0, 2), [-7, 1, 0])
        self.assertEqual(ask_check([1, 1, 1], [[1, 1, 1]] * 3, 1, 0, 3), [-7, 2, 0])

    def test_more_needed_than_there_are_engines(self):
        self.assertEqual(ask_check([6, 6], [[1, 1]] * 6, *[0] * 6), [-7, 1, 0])


class ByTheWordsTest(unittest.TestCase):
    def test_every_plan_of_some_watches(self):
        seen = {}
        for needs, engines in (TWO_FIRES, ([2, 0, 1], [[1, 2, NO_WAY], [5, NO_WAY, 0], [7, 7, 7], [NO_WAY, 4, 1000]])):
            line = watch_line(needs, engines)
            for plan in product(range(len(needs) + 2), repeat=len(engines)):
                expected = check_by_words(needs, engines, plan)
                seen[expected[0]] = True
                self.assertEqual(last_answer(*line, check(*plan)), expected, plan)
        self.assertTrue(seen[-1] and seen[-6] and seen[-7] and seen[7])


class ChangesNothingTest(unittest.TestCase):
    def test_behind_it_all_is_answered_as_if_it_had_not_been_called(self):
        line = watch_line(*TWO_FIRES)
        behind = [soonest(), least(), engine(1, 1), soonest(), least(), engine(1)]
        expected = ask(*line, *behind)[len(line):]
        for plan in ([0, 1, 2], [2, 2, 2], [0, 0, 0], [0], [9, 9, 9], [0] * 12, []):
            with self.subTest(plan=plan):
                self.assertEqual(ask(*line, check(*plan), *behind)[len(line) + 1:], expected)

    def test_asked_twice_it_answers_the_same(self):
        for plan in ([0, 1, 2], [2, 2, 2], [0, 0, 0], [0]):
            with self.subTest(plan=plan):
                first, second = ask(*watch_line(*TWO_FIRES), check(*plan), check(*plan))[-2:]
                self.assertEqual(first, second)

    def test_is_asked_of_the_engines_there_are_then(self):
        answered = ask(begins(1), check(), engine(4), check(0), engine(3), check(0), check(1, 0), begins(1), check(1, 0))
        self.assertEqual(answered, [[0], [-7, 0, 0], [0], [4, 4], [1], [-1], [3, 3], [0], [-1]])


if __name__ == "__main__":
    unittest.main()
