import unittest

from tests.line import HIGHEST, ask, begins, engine, last_answer, soonest


class BeginsTest(unittest.TestCase):
    def test_takes_no_fires_up_to_four(self):
        for needs in ([], [1], [1, 2], [0, 0, 0], [1, 2, 3, 4]):
            with self.subTest(needs=needs):
                self.assertEqual(ask(begins(*needs)), [[0]])

    def test_takes_needs_from_none_to_six(self):
        for need in range(7):
            with self.subTest(need=need):
                self.assertEqual(ask(begins(need)), [[0]])
        self.assertEqual(ask(begins(6, 6, 6, 6)), [[0]])

    def test_refuses_more_than_four_fires(self):
        self.assertEqual(ask(begins(0, 0, 0, 0, 0)), [[-1]])
        self.assertEqual(ask(begins(0, 0, 0, 0, 0, 0)), [[-1]])
        self.assertEqual(ask(begins(1, 2, 3, 4, 5, 6)), [[-1]])

    def test_refuses_a_need_above_six_wherever_it_stands(self):
        for need in (7, 8, 1000, HIGHEST):
            for needs in ([need], [need, 0, 0, 0], [0, 0, 0, need], [6, need, 6]):
                with self.subTest(needs=needs):
                    self.assertEqual(ask(begins(*needs)), [[-1]])

    def test_is_refused_once_where_both_faults_stand(self):
        self.assertEqual(ask(begins(7, 7, 7, 7, HIGHEST)), [[-1]])

    def test_takes_the_engines_away(self):
        answered = ask(begins(1), engine(5), engine(3), begins(1), soonest(), engine(9), soonest())
        self.assertEqual(answered, [[0], [0], [1], [0], [-6], [0], [9, 9, 1, 0]])

    def test_takes_the_engines_away_when_the_same_fires_begin_again(self):
        self.assertEqual(last_answer(begins(0), engine(5), begins(0), soonest()), [0, 0, 1])

    def test_takes_the_engines_away_when_no_fires_begin(self):
        self.assertEqual(last_answer(begins(1), engine(5), begins(), soonest()), [0, 0, 1])

    def test_puts_new_fires_in_the_place_of_the_old(self):
        answered = ask(begins(1), begins(1, 1), engine(5), engine(5, 6), engine(7, 9), soonest())
        self.assertEqual(answered, [[0], [0], [-1], [0], [1], [7, 13, 1, 1, 0]])

    def test_makes_room_for_six_engines_again(self):
        full = [engine(k) for k in range(6)]
        answered = ask(begins(1), *full, engine(1), begins(1), *full, engine(1))
        numbers = [[k] for k in range(6)]
        self.assertEqual(answered, [[0], *numbers, [-5], [0], *numbers, [-5]])

    def test_leaves_all_as_it_was_when_refused(self):
        before = [begins(1, 1), engine(4, 9), engine(2, 3)]
        soonest_then = [4, 7, 1, 0, 1]
        self.assertEqual(last_answer(*before, soonest()), soonest_then)
        for refused in (begins(7), begins(1, 7), begins(0, 0, 0, 0, 0), begins(HIGHEST), begins(0, 0, 0, 0, 0, 0)):
            with self.subTest(refused=refused):
                answered = ask(*before, refused, soonest(), engine(1), engine(8, 1), soonest())
                self.assertEqual(answered[3:], [[-1], soonest_then, [-1], [2], [2, 3, 1, 2, 0, 1]])

    def test_leaves_a_new_watch_without_fires_when_refused(self):
        self.assertEqual(ask(begins(7), engine(3), engine(), soonest()), [[-1], [-1], [0], [0, 0, 1, 0]])


if __name__ == "__main__":
    unittest.main()
