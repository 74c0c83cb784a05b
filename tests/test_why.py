import random
import unittest

from tests.line import (HIGHEST, NO_WAY, ask, begins, engine, last_answer, least, soonest, watch_line, why,
                        why_by_words)


def ask_why(needs, engines, minutes):
    return last_answer(*watch_line(needs, engines), why(minutes))


class MinutesTest(unittest.TestCase):
    def test_takes_up_to_a_thousand(self):
        for minutes in (0, 1, 999, 1000):
            with self.subTest(minutes=minutes):
                self.assertEqual(ask(why(minutes)), [[0, 0]])
        self.assertEqual(ask_why([1], [[0]], 0), [0, 0])
        self.assertEqual(ask_why([1], [[1000]], 1000), [0, 0])

    def test_refuses_above_that(self):
        for minutes in (1001, 1002, 65536, HIGHEST):
            with self.subTest(minutes=minutes):
                self.assertEqual(ask(why(minutes)), [[-1]])
                self.assertEqual(ask_why([2], [[5]], minutes), [-1])


class NothingShortTest(unittest.TestCase):
    def test_no_fires(self):
        self.assertEqual(ask_why([], [], 10), [0, 0])
        self.assertEqual(ask_why([], [[], []], 10), [0, 0])

    def test_nothing_needed(self):
        self.assertEqual(ask_why([0, 0], [], 0), [0, 0])
        self.assertEqual(ask_why([0, 0], [[NO_WAY, 5]], 5), [0, 0])

    def test_all_can_be_served(self):
        self.assertEqual(ask_why([1, 1], [[5, 9], [4, 2]], 5), [0, 0])
        self.assertEqual(ask_why([1, 1], [[5, 5]] * 6, 5), [0, 0])
        self.assertEqual(ask_why([3, 1, 1, 1], [[5] * 4] * 6, 5), [0, 0])


class ShortTest(unittest.TestCase):
    def test_no_engines(self):
        self.assertEqual(ask_why([3], [], 1000), [3, 1])
        self.assertEqual(ask_why([6, 6, 6, 6], [], 1000), [24, 15])

    def test_one_fire(self):
        self.assertEqual(ask_why([3], [[5], [6], [5]], 5), [1, 1, 0, 2])
        self.assertEqual(ask_why([6], [[5]] * 5, 5), [1, 1, 0, 1, 2, 3, 4])

    def test_just_so_many_minutes_and_one_more(self):
        self.assertEqual(ask_why([1], [[7]], 7), [0, 0])
        self.assertEqual(ask_why([1], [[8]], 7), [1, 1])
        self.assertEqual(ask_why([2], [[7], [8]], 7), [1, 1, 0])
        self.assertEqual(ask_why([1], [[1]], 0), [1, 1])
        self.assertEqual(ask_why([1], [[1000]], 999), [1, 1])

    def test_no_way_is_not_come_within_a_thousand(self):
        self.assertEqual(ask_why([1], [[NO_WAY]], 1000), [1, 1])
        self.assertEqual(ask_why([2], [[NO_WAY], [1000]], 1000), [1, 1, 1])

    def test_fires_that_are_short_together_alone(self):
        # Each has an engine within 5 minutes, but it's the same one.
        self.assertEqual(ask_why([1, 1], [[5, 5], [6, 6]], 5), [1, 3, 0])
        self.assertEqual(ask_why([1, 1, 1], [[9, 1, 1], [1, 9, 9], [1, 9, 9]], 5), [1, 6, 0])

    def test_an_engine_that_comes_to_two_of_them_counts_once(self):
        self.assertEqual(ask_why([2, 2], [[1, 1], [1, 1], [1, 1]], 1), [1, 3, 0, 1, 2])

    def test_the_shortest_set_goes_ahead_of_a_lower_number(self):
        self.assertEqual(ask_why([1, 2], [[NO_WAY, NO_WAY]], 9), [3, 3])
        self.assertEqual(ask_why([1, 3], [[9, NO_WAY], [9, NO_WAY]], 9), [3, 2])
        self.assertEqual(ask_why([0, 0, 0, 4], [[1] * 4], 1), [3, 8, 0])

    def test_of_several_equally_short_the_lowest_number(self):
        # Fire 1 needs nothing: with it the set is as short, but its number is higher.
        self.assertEqual(ask_why([2, 0], [[5, 5]], 5), [1, 1, 0])
        self.assertEqual(ask_why([0, 2], [[5, 5]], 5), [1, 2, 0])
        self.assertEqual(ask_why([1, 1], [[9, NO_WAY], [NO_WAY, NO_WAY]], 8), [2, 3])
        # Fire 0 with what it has adds nothing to fire 2, so the set is fire 2 alone.
        self.assertEqual(ask_why([1, 0, 2], [[1, 9, 9], [9, 9, 1]], 1), [1, 4, 1])

    def test_the_engines_that_can_come_rise_and_the_others_are_not_told(self):
        engines = [[9, 9, 1], [1, 9, 9], [9, 9, 1], [9, 1, 9], [2, 2, 2], [1, 1, 9]]
        self.assertEqual(ask_why([3, 2, 0], engines, 1), [2, 3, 1, 3, 5])
        self.assertEqual(ask_why([3, 2, 0], engines, 2), [1, 3, 1, 3, 4, 5])
        self.assertEqual(ask_why([3, 2, 0], engines, 9), [0, 0])

    def test_an_engine_that_can_come_is_told_though_it_has_no_way_to_another_of_them(self):
        self.assertEqual(ask_why([2, 2], [[NO_WAY, 3], [3, NO_WAY], [3, 3]], 3), [1, 3, 0, 1, 2])


class ByTheWordsTest(unittest.TestCase):
    def random_watch(self, source, highest):
        needs = [source.choice((0, 1, 1, 2, 3, 6)) for fire in range(source.randint(0, 4))]
        engines = []
        for number in range(source.randint(0, 6)):
            engines.append([NO_WAY if source.random() < 0.15 else source.randint(0, highest) for fire in needs])
        return needs, engines

    def test_every_set_is_tried(self):
        source = random.Random(7)
        seen = {}
        for trial in range(400):
            highest = source.choice((3, 20, 1000))
            needs, engines = self.random_watch(source, highest)
            for minutes in (0, source.randint(0, highest), highest, 1000, 1001):
                expected = why_by_words(needs, engines, minutes)
                seen[expected[1:2] == [0], expected[0] > 0] = True
                self.assertEqual(ask_why(needs, engines, minutes), expected, (needs, engines, minutes))
        self.assertEqual(sorted(seen), [(False, False), (False, True), (True, False)])

    def test_all_can_be_served_in_time_just_if_no_set_is_short(self):
        source = random.Random(8)
        kinds = {}
        for trial in range(200):
            needs, engines = self.random_watch(source, 12)
            line = watch_line(needs, engines)
            last = last_answer(*line, soonest())
            for minutes in range(14):
                in_time = last != [-6] and last[0] <= minutes
                kinds[in_time] = True
                self.assertEqual(ask_why(needs, engines, minutes)[0] == 0, in_time, (needs, engines, minutes))
        self.assertEqual(sorted(kinds), [False, True])


class ChangesNothingTest(unittest.TestCase):
    def test_behind_it_all_is_answered_as_if_it_had_not_been_called(self):
        line = watch_line([1, 1], [[3, 8], [NO_WAY, 5], [4, NO_WAY]])
        behind = [soonest(), least(), engine(1, 1), soonest(), least(), engine(1)]
        expected = ask(*line, *behind)[len(line):]
        for minutes in (0, 3, 4, 5, 1000, 1001, HIGHEST):
            with self.subTest(minutes=minutes):
                self.assertEqual(ask(*line, why(minutes), *behind)[len(line) + 1:], expected)
                first, second = ask(*line, why(minutes), why(minutes))[-2:]
                self.assertEqual(first, second)

    def test_is_asked_of_the_engines_there_are_then(self):
        answered = ask(begins(1), why(5), engine(6), why(5), engine(5), why(5), begins(2), why(5), engine(0), why(5))
        self.assertEqual(answered, [[0], [1, 1], [0], [1, 1], [1], [0, 0], [0], [2, 1], [0], [1, 1, 0]])


if __name__ == "__main__":
    unittest.main()
