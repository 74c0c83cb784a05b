"""Lines of all six calls, in any order, held against a plain trial of every plan and every set."""

import random
import unittest

from firewatchdesk.watch import answers
from tests.line import HIGHEST, NO_WAY, begins, check, engine, least, line_by_words, soonest, split_answers, why

WRONG = (7, 1002, HIGHEST)


class Line:
    """Calls drawn so that most are taken, and some are refused for each of their reasons."""

    def __init__(self, source, highest):
        self.source = source
        self.highest = highest
        self.fires = 0
        self.engines = 0
        self.calls = []

    def row(self, numbers, wanted, longest):
        """A row that is now and then of another length, or has a number that's too high."""
        chance = self.source.random()
        length = wanted
        if chance < 0.06:
            length = self.source.randint(0, longest)
        found = [numbers() for k in range(length)]
        if chance > 0.95 and found:
            found[self.source.randrange(length)] = self.source.choice(WRONG)
        return found

    def minutes(self):
        return NO_WAY if self.source.random() < 0.12 else self.source.randint(0, self.highest)

    def add_begins(self):
        row = self.row(lambda: self.source.choice((0, 1, 1, 1, 2, 3)), self.source.randint(0, 4), 6)
        if len(row) <= 4 and max(row, default=0) <= 6:
            self.fires, self.engines = len(row), 0
        self.calls.append(begins(*row))

    def add_engine(self):
        row = self.row(self.minutes, self.fires, 6)
        if len(row) == self.fires and max(row, default=0) <= NO_WAY:
            self.engines = min(6, self.engines + 1)
        self.calls.append(engine(*row))

    def add_check(self):
        self.calls.append(check(*self.row(lambda: self.source.randint(0, self.fires), self.engines, 12)))

    def add_why(self):
        within = self.source.randint(0, self.highest)
        self.calls.append(why(self.source.choice((within, within, within, 0, 1000, 1001, HIGHEST))))

    def add_any(self):
        kind = self.source.choice("beeeeeeeslccccww")
        if kind == "b":
            self.add_begins()
        elif kind == "e":
            self.add_engine()
        elif kind == "s":
            self.calls.append(soonest())
        elif kind == "l":
            self.calls.append(least())
        elif kind == "c":
            self.add_check()
        else:
            self.add_why()


def drawn_line(source):
    line = Line(source, source.choice((2, 9, 1000)))
    if source.random() < 0.8:
        line.add_begins()
    length = source.choice((1, 5, 20, 40, 40))
    while len(line.calls) < length:
        line.add_any()
    return line.calls


def joined(calls):
    return [number for call in calls for number in call]


class DrawnLinesTest(unittest.TestCase):
    def setUp(self):
        source = random.Random(9)
        self.lines = [drawn_line(source) for trial in range(120)]

    def test_are_answered_by_the_words(self):
        seen = {}
        for calls in self.lines:
            given = split_answers(answers(joined(calls)))
            self.assertEqual(len(given), len(calls))
            for number, expected in enumerate(line_by_words(calls)):
                self.assertEqual(given[number], expected, calls[:number + 1])
                seen[calls[number][0], min(expected[0], 0)] = True
        kinds = [(0, -1), (0, 0), (1, -5), (1, -1), (1, 0), (2, -6), (2, 0), (3, -6), (3, 0),
                 (4, -7), (4, -6), (4, -1), (4, 0), (5, -1), (5, 0)]
        self.assertEqual(sorted(seen), kinds)

    def test_have_up_to_forty_calls_and_are_never_too_long(self):
        self.assertEqual(max(len(calls) for calls in self.lines), 40)
        self.assertLessEqual(max(len(joined(calls)) for calls in self.lines), 2000)

    def test_are_the_same_behind_the_call_as_ahead_of_it(self):
        for calls in self.lines:
            handed = joined(calls)
            answers(handed)
            self.assertEqual(handed, joined(calls))

    def test_are_answered_the_same_when_asked_again(self):
        first = [answers(joined(calls)) for calls in self.lines]
        again = [answers(joined(calls)) for calls in reversed(self.lines)]
        self.assertEqual(first, again[::-1])

    def test_what_asks_alone_changes_nothing(self):
        for calls in self.lines:
            given = split_answers(answers(joined(calls)))
            changing = [number for number, call in enumerate(calls) if call[0] in (0, 1)]
            alone = split_answers(answers(joined([calls[number] for number in changing])))
            self.assertEqual(alone, [given[number] for number in changing])


class FullWatchTest(unittest.TestCase):
    def test_four_fires_and_six_engines_in_forty_calls(self):
        source = random.Random(10)
        for trial in range(3):
            calls = [begins(1, 2, 0, 2)]
            calls += [engine(*[source.choice((0, 3, 5, 5, 8, NO_WAY)) for fire in range(4)]) for number in range(6)]
            asking = [soonest(), least(), why(5), why(8), engine(1, 1, 1, 1), begins(9), engine(5)]
            asking += [check(*[source.randint(0, 4) for number in range(6)]) for plan in range(26)]
            source.shuffle(asking)
            calls += asking
            self.assertEqual(len(calls), 40)
            self.assertEqual(split_answers(answers(joined(calls))), line_by_words(calls))


if __name__ == "__main__":
    unittest.main()
