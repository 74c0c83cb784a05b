import random
import unittest

from tests.line import NO_WAY, ask, begins, engine, judged_plans, last_answer, soonest, soonest_by_words, watch_line


def ask_soonest(needs, engines):
    return last_answer(*watch_line(needs, engines), soonest())


class EmptyWatchTest(unittest.TestCase):
    def test_no_fires_and_no_engines(self):
        self.assertEqual(ask(soonest()), [[0, 0, 1]])
        self.assertEqual(ask_soonest([], []), [0, 0, 1])

    def test_no_fires_and_some_engines_stay(self):
        self.assertEqual(ask(engine(), soonest()), [[0], [0, 0, 1, 0]])
        self.assertEqual(ask_soonest([], [[]] * 6), [0, 0, 1, 0, 0, 0, 0, 0, 0])

    def test_nothing_needed(self):
        self.assertEqual(ask_soonest([0], []), [0, 0, 1])
        self.assertEqual(ask_soonest([0, 0], [[5, 6], [0, 0], [NO_WAY, NO_WAY]]), [0, 0, 1, 2, 2, 2])
        self.assertEqual(ask_soonest([0, 0, 0, 0], [[1, 1, 1, 1]] * 6), [0, 0, 1, 4, 4, 4, 4, 4, 4])


class NoRightPlanTest(unittest.TestCase):
    def test_for_want_of_engines(self):
        self.assertEqual(ask_soonest([1], []), [-6])
        self.assertEqual(ask_soonest([2], [[1]]), [-6])
        self.assertEqual(ask_soonest([1, 1, 1], [[1, 1, 1]] * 2), [-6])
        self.assertEqual(ask_soonest([6, 1], [[1, 1]] * 6), [-6])
        self.assertEqual(ask_soonest([6, 6, 6, 6], [[1, 1, 1, 1]] * 6), [-6])

    def test_for_want_of_a_way(self):
        self.assertEqual(ask_soonest([1], [[NO_WAY]] * 6), [-6])
        self.assertEqual(ask_soonest([1, 1], [[3, NO_WAY], [4, NO_WAY], [5, NO_WAY]]), [-6])

    def test_for_want_of_a_way_for_two_fires_that_share_one_engine(self):
        self.assertEqual(ask_soonest([1, 1, 0], [[3, 4, NO_WAY], [NO_WAY, NO_WAY, 1], [NO_WAY, NO_WAY, 1]]), [-6])

    def test_leaves_all_as_it_was(self):
        answered = ask(begins(2), engine(4), soonest(), soonest(), engine(6), soonest())
        self.assertEqual(answered, [[0], [0], [-6], [-6], [1], [6, 10, 1, 0, 0]])


class SoonestTest(unittest.TestCase):
    def test_one_fire_takes_the_nearest(self):
        self.assertEqual(ask_soonest([1], [[9], [4], [7]]), [4, 4, 1, 1, 0, 1])
        self.assertEqual(ask_soonest([2], [[9], [4], [7]]), [7, 11, 1, 1, 0, 0])

    def test_all_six_to_one_fire(self):
        self.assertEqual(ask_soonest([6], [[1], [2], [3], [1000], [4], [5]]), [1000, 1015, 1, 0, 0, 0, 0, 0, 0])

    def test_minutes_of_nought_are_a_way(self):
        self.assertEqual(ask_soonest([1, 1], [[0, 5], [5, 0]]), [0, 0, 1, 0, 1])

    def test_the_nearest_to_each_fire_is_not_the_soonest(self):
        # Engine 0 is the nearest to both; sent to fire 0, it leaves fire 1 waiting for 50 minutes.
        self.assertEqual(ask_soonest([1, 1], [[1, 2], [9, 50]]), [9, 11, 1, 1, 0])

    def test_the_last_one_goes_ahead_of_what_is_driven(self):
        # To send 0 to 0 and 1 to 1 drives 11 in all, but the last one is there behind 10.
        self.assertEqual(ask_soonest([1, 1], [[1, 9], [9, 10]]), [9, 18, 1, 1, 0])

    def test_of_those_as_soon_the_least_is_driven(self):
        # Fire 1 waits 20 in any case; engine 2 serves fire 0 with less driven than engine 0.
        self.assertEqual(ask_soonest([1, 1], [[15, NO_WAY], [1, 20], [4, NO_WAY]]), [20, 24, 1, 2, 1, 0])

    def test_an_engine_without_a_way_is_passed_over(self):
        self.assertEqual(ask_soonest([1, 1], [[NO_WAY, 3], [1, 1]]), [3, 4, 1, 1, 0])
        self.assertEqual(ask_soonest([1], [[NO_WAY], [1000]]), [1000, 1000, 1, 1, 0])

    def test_how_many_are_as_good_and_the_earliest(self):
        self.assertEqual(ask_soonest([1], [[5], [5], [5]]), [5, 5, 3, 0, 1, 1])
        self.assertEqual(ask_soonest([1, 1], [[5, 5], [5, 5]]), [5, 10, 2, 0, 1])
        self.assertEqual(ask_soonest([0, 1, 1], [[1, 5, 5]] * 3), [5, 10, 6, 1, 2, 3])

    def test_only_those_as_good_in_both_are_counted(self):
        # Two more right plans are there behind 8, with more driven.
        self.assertEqual(ask_soonest([1, 1], [[8, NO_WAY], [NO_WAY, 3], [NO_WAY, 3], [NO_WAY, 4], [NO_WAY, 5]]),
                         [8, 11, 2, 0, 1, 2, 2, 2])

    def test_the_earlier_has_the_lower_number_where_staying_is_the_highest(self):
        self.assertEqual(ask_soonest([1, 1], [[7, 7], [7, 7], [7, 7]]), [7, 14, 6, 0, 1, 2])
        self.assertEqual(ask_soonest([1, 0], [[7, 7], [7, 7]]), [7, 7, 2, 0, 2])
        self.assertEqual(ask_soonest([2, 1], [[2, 2]] * 4), [2, 6, 12, 0, 0, 1, 2])

    def test_four_fires_and_six_engines(self):
        engines = [[12, 7, 30, 5], [3, 9, 14, 8], [20, 6, 4, NO_WAY], [11, 11, 11, 11], [NO_WAY, 2, 25, 6], [7, 7, 7, 7]]
        for needs in ([1, 1, 1, 1], [2, 1, 1, 1], [1, 2, 1, 2], [3, 1, 1, 1], [0, 3, 3, 0], [6, 0, 0, 0]):
            with self.subTest(needs=needs):
                self.assertEqual(ask_soonest(needs, engines), soonest_by_words(needs, engines))
        self.assertEqual(ask_soonest([1, 1, 1, 1], engines), [5, 14, 1, 3, 0, 2, 4, 1, 4])

    def test_four_fires_and_six_engines_all_alike(self):
        self.assertEqual(ask_soonest([1, 1, 1, 1], [[1000] * 4] * 6), [1000, 4000, 360, 0, 1, 2, 3, 4, 4])
        self.assertEqual(ask_soonest([2, 2, 1, 1], [[0] * 4] * 6), [0, 0, 180, 0, 0, 1, 1, 2, 3])

    def test_often_in_one_line(self):
        line = watch_line([1, 1, 1, 1], [[1, 1, 1, 1]] * 6)
        asked = 40 - len(line)
        answered = ask(*line, *[soonest()] * asked)
        self.assertEqual(answered[len(line):], [[1, 4, 360, 0, 1, 2, 3, 4, 4]] * asked)
        self.assertEqual(ask(*[soonest()] * 40), [[0, 0, 1]] * 40)

    def test_between_other_calls_changes_nothing(self):
        needs, engines = [1, 2], [[5, 9], [3, 3], [8, 2], [1, NO_WAY]]
        line = [begins(*needs)]
        expected = [[0]]
        for number in range(len(engines) + 1):
            line.append(soonest())
            expected.append(soonest_by_words(needs, engines[:number]))
            if number < len(engines):
                line.append(engine(*engines[number]))
                expected.append([number])
        self.assertEqual(ask(*line), expected)


class ByTheWordsTest(unittest.TestCase):
    def assert_as_the_words(self, source, highest, watches):
        served = 0
        for trial in range(watches):
            fires = source.randint(0, 4)
            needs = [source.choice((0, 1, 1, 2, 2, 3)) for fire in range(fires)]
            engines = []
            for number in range(source.randint(0, 6 if fires < 4 else 5)):
                engines.append([NO_WAY if source.random() < 0.15 else source.randint(0, highest) for fire in needs])
            expected = soonest_by_words(needs, engines)
            served += expected != [-6]
            self.assertEqual(ask_soonest(needs, engines), expected, (needs, engines))
        self.assertGreater(served, watches // 5)

    def test_where_many_plans_are_as_good(self):
        self.assert_as_the_words(random.Random(1), 2, 150)

    def test_where_the_minutes_differ(self):
        self.assert_as_the_words(random.Random(2), 20, 150)
        self.assert_as_the_words(random.Random(3), 1000, 50)

    def test_plans_are_judged_by_the_words(self):
        self.assertEqual(judged_plans([1], [[3], [4]]), [(3, 3, (0, 1)), (4, 4, (1, 0))])


if __name__ == "__main__":
    unittest.main()
