import random
import unittest

from tests.line import (NO_WAY, ask, begins, check, engine, last_answer, least, least_by_words, soonest,
                        soonest_by_words, watch_line)


def ask_least(needs, engines):
    return last_answer(*watch_line(needs, engines), least())


class EmptyWatchTest(unittest.TestCase):
    def test_no_fires_and_no_engines(self):
        self.assertEqual(ask(least()), [[0, 0, 1]])
        self.assertEqual(ask_least([], []), [0, 0, 1])

    def test_no_fires_and_some_engines_stay(self):
        self.assertEqual(ask(engine(), least()), [[0], [0, 0, 1, 0]])
        self.assertEqual(ask_least([], [[]] * 6), [0, 0, 1, 0, 0, 0, 0, 0, 0])

    def test_nothing_needed(self):
        self.assertEqual(ask_least([0], []), [0, 0, 1])
        self.assertEqual(ask_least([0, 0], [[5, 6], [0, 0], [NO_WAY, NO_WAY]]), [0, 0, 1, 2, 2, 2])
        self.assertEqual(ask_least([0, 0, 0, 0], [[1, 1, 1, 1]] * 6), [0, 0, 1, 4, 4, 4, 4, 4, 4])


class NoRightPlanTest(unittest.TestCase):
    def test_for_want_of_engines(self):
        self.assertEqual(ask_least([1], []), [-6])
        self.assertEqual(ask_least([2], [[1]]), [-6])
        self.assertEqual(ask_least([6, 1], [[1, 1]] * 6), [-6])
        self.assertEqual(ask_least([6, 6, 6, 6], [[1, 1, 1, 1]] * 6), [-6])

    def test_for_want_of_a_way(self):
        self.assertEqual(ask_least([1], [[NO_WAY]] * 6), [-6])
        self.assertEqual(ask_least([1, 1], [[3, NO_WAY], [4, NO_WAY], [5, NO_WAY]]), [-6])
        self.assertEqual(ask_least([1, 1, 0], [[3, 4, NO_WAY], [NO_WAY, NO_WAY, 1], [NO_WAY, NO_WAY, 1]]), [-6])

    def test_leaves_all_as_it_was(self):
        answered = ask(begins(2), engine(4), least(), least(), engine(6), least())
        self.assertEqual(answered, [[0], [0], [-6], [-6], [1], [10, 6, 1, 0, 0]])


class LeastTest(unittest.TestCase):
    def test_tells_what_is_driven_ahead_of_the_last_one(self):
        self.assertEqual(ask_least([2], [[9], [4], [7]]), [11, 7, 1, 1, 0, 0])
        self.assertEqual(ask_least([6], [[1], [2], [3], [1000], [4], [5]]), [1015, 1000, 1, 0, 0, 0, 0, 0, 0])

    def test_is_not_the_soonest_where_less_is_driven_otherwise(self):
        # The soonest sends each engine to 9; the least sends one to 1 and one to 10.
        answered = ask(*watch_line([1, 1], [[1, 9], [9, 10]]), soonest(), least(), soonest())
        self.assertEqual(answered[3:], [[9, 18, 1, 1, 0], [11, 10, 1, 0, 1], [9, 18, 1, 1, 0]])
        answered = ask(*watch_line([1, 1], [[0, 500], [500, 999]]), least(), soonest(), least())
        self.assertEqual(answered[3:], [[999, 999, 1, 0, 1], [500, 1000, 1, 1, 0], [999, 999, 1, 0, 1]])

    def test_of_those_by_which_as_much_is_driven_the_last_one_is_there_the_soonest(self):
        # Both ways drive 10, but the earlier plan has the last one there behind 9, the later one behind 6.
        self.assertEqual(ask_least([1, 1], [[1, 4], [6, 9]]), [10, 6, 1, 1, 0])
        self.assertEqual(ask_least([1, 1], [[4, 1], [9, 6]]), [10, 6, 1, 0, 1])

    def test_only_those_as_good_in_both_are_counted(self):
        # Two more right plans drive 10, but the last one is there behind 9.
        self.assertEqual(ask_least([1, 1], [[5, 9], [1, 5], [NO_WAY, 9]]), [10, 5, 1, 0, 1, 2])
        # Two more right plans have the last one there behind 5, but drive 10.
        self.assertEqual(ask_least([1, 1], [[5, NO_WAY], [2, 5], [2, 5]]), [7, 5, 2, 2, 0, 1])

    def test_an_engine_without_a_way_is_passed_over(self):
        self.assertEqual(ask_least([1, 1], [[NO_WAY, 3], [1, 1]]), [4, 3, 1, 1, 0])
        self.assertEqual(ask_least([1], [[NO_WAY], [1000]]), [1000, 1000, 1, 1, 0])

    def test_how_many_are_as_good_and_the_earliest(self):
        self.assertEqual(ask_least([1], [[5], [5], [5]]), [5, 5, 3, 0, 1, 1])
        self.assertEqual(ask_least([1, 1], [[5, 5], [5, 5]]), [10, 5, 2, 0, 1])
        self.assertEqual(ask_least([0, 1, 1], [[1, 5, 5]] * 3), [10, 5, 6, 1, 2, 3])
        self.assertEqual(ask_least([2, 1], [[2, 2]] * 4), [6, 2, 12, 0, 0, 1, 2])

    def test_four_fires_and_six_engines(self):
        engines = [[12, 7, 30, 5], [3, 9, 14, 8], [20, 6, 4, NO_WAY], [11, 11, 11, 11], [NO_WAY, 2, 25, 6], [7, 7, 7, 7]]
        for needs in ([1, 1, 1, 1], [2, 1, 1, 1], [1, 2, 1, 2], [3, 1, 1, 1], [0, 3, 3, 0], [6, 0, 0, 0]):
            with self.subTest(needs=needs):
                self.assertEqual(ask_least(needs, engines), least_by_words(needs, engines))
        self.assertEqual(ask_least([1, 1, 1, 1], engines), [14, 5, 1, 3, 0, 2, 4, 1, 4])

    def test_four_fires_and_six_engines_all_alike(self):
        self.assertEqual(ask_least([1, 1, 1, 1], [[1000] * 4] * 6), [4000, 1000, 360, 0, 1, 2, 3, 4, 4])
        self.assertEqual(ask_least([2, 2, 1, 1], [[0] * 4] * 6), [0, 0, 180, 0, 0, 1, 1, 2, 3])

    def test_often_in_one_line(self):
        line = watch_line([1, 1, 1, 1], [[1, 1, 1, 1]] * 6)
        asked = 40 - len(line)
        self.assertEqual(ask(*line, *[least()] * asked)[len(line):], [[4, 1, 360, 0, 1, 2, 3, 4, 4]] * asked)


class ByTheWordsTest(unittest.TestCase):
    def assert_as_the_words(self, source, highest, watches):
        served = differ = 0
        for trial in range(watches):
            fires = source.randint(0, 4)
            needs = [source.choice((0, 1, 1, 2, 2, 3)) for fire in range(fires)]
            engines = []
            for number in range(source.randint(0, 6 if fires < 4 else 5)):
                engines.append([NO_WAY if source.random() < 0.15 else source.randint(0, highest) for fire in needs])
            expected = least_by_words(needs, engines)
            served += expected != [-6]
            differ += expected[3:] != soonest_by_words(needs, engines)[3:]
            self.assertEqual(ask_least(needs, engines), expected, (needs, engines))
            if expected != [-6]:
                checked = last_answer(*watch_line(needs, engines), check(*expected[3:]))
                self.assertEqual(checked, [expected[1], expected[0]])
        self.assertGreater(served, watches // 5)
        self.assertGreater(differ, 0)

    def test_where_many_plans_are_as_good(self):
        self.assert_as_the_words(random.Random(4), 2, 150)

    def test_where_the_minutes_differ(self):
        self.assert_as_the_words(random.Random(5), 20, 150)
        self.assert_as_the_words(random.Random(6), 1000, 100)


if __name__ == "__main__":
    unittest.main()
