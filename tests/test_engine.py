import unittest

from tests.line import HIGHEST, NO_WAY, ask, begins, engine, last_answer, soonest


class EngineTest(unittest.TestCase):
    def test_answers_its_number_rising_from_nought(self):
        answered = ask(begins(1, 1), *[engine(k, 1000 - k) for k in range(6)])
        self.assertEqual(answered, [[0], [0], [1], [2], [3], [4], [5]])

    def test_refuses_too_few_and_too_many_numbers(self):
        for fires in range(5):
            for numbers in range(7):
                with self.subTest(fires=fires, numbers=numbers):
                    answer = last_answer(begins(*[1] * fires), engine(*[5] * numbers))
                    self.assertEqual(answer, [0] if numbers == fires else [-1])

    def test_takes_minutes_up_to_a_thousand(self):
        for minutes in (0, 1, 999, 1000):
            with self.subTest(minutes=minutes):
                answered = ask(begins(1), engine(minutes), soonest())
                self.assertEqual(answered, [[0], [0], [minutes, minutes, 1, 0]])

    def test_takes_a_thousand_and_one_as_no_way(self):
        self.assertEqual(ask(begins(1), engine(NO_WAY), soonest()), [[0], [0], [-6]])
        self.assertEqual(ask(begins(1, 0), engine(7, NO_WAY), soonest()), [[0], [0], [7, 7, 1, 0]])

    def test_refuses_a_number_above_that_wherever_it_stands(self):
        for minutes in (1002, 1003, 65536, HIGHEST):
            for row in ([minutes, 0, 0, 0], [0, minutes, 1001, 0], [1000, 0, 0, minutes]):
                with self.subTest(row=row):
                    self.assertEqual(last_answer(begins(1, 1, 1, 1), engine(*row)), [-1])

    def test_refuses_the_seventh(self):
        answered = ask(begins(1), *[engine(10) for k in range(8)])
        self.assertEqual(answered, [[0], [0], [1], [2], [3], [4], [5], [-5], [-5]])

    def test_refuses_wrong_numbers_ahead_of_the_seventh(self):
        full = [begins(1, 1), *[engine(10, 10) for k in range(6)]]
        for wrong in (engine(), engine(1), engine(1, 1, 1), engine(1002, 0), engine(0, HIGHEST)):
            with self.subTest(wrong=wrong):
                self.assertEqual(last_answer(*full, wrong), [-1])
        self.assertEqual(last_answer(*full, engine(1000, NO_WAY)), [-5])

    def test_leaves_all_as_it_was_when_refused(self):
        answered = ask(begins(1), engine(8), engine(2, 2), engine(1002), engine(), soonest(), engine(9), soonest())
        self.assertEqual(answered, [[0], [0], [-1], [-1], [-1], [8, 8, 1, 0], [1], [8, 8, 1, 0, 1]])

    def test_leaves_the_six_as_they_were_when_a_seventh_is_refused(self):
        full = [begins(1), *[engine(20 + k) for k in range(6)]]
        self.assertEqual(last_answer(*full, engine(1), soonest()), [20, 20, 1, 0, 1, 1, 1, 1, 1])
        self.assertEqual(last_answer(*full, engine(1, 1), soonest()), [20, 20, 1, 0, 1, 1, 1, 1, 1])

    def test_can_come_when_there_are_no_fires(self):
        self.assertEqual(ask(engine(), engine()), [[0], [1]])
        self.assertEqual(ask(begins(), engine(), engine(1), soonest()), [[0], [0], [-1], [0, 0, 1, 0]])
        self.assertEqual(ask(*[engine() for k in range(7)])[-2:], [[5], [-5]])

    def test_is_refused_minutes_when_there_are_no_fires(self):
        self.assertEqual(ask(engine(5), engine(0, 0), engine()), [[-1], [-1], [0]])


if __name__ == "__main__":
    unittest.main()
