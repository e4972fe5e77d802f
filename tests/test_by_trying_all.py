"""Many lists of calls, each answer held against one found by trying all readings."""

import itertools
import random
import unittest

from support import run


class Tried:
    """The words of the document, year by year and reading by reading."""

    def __init__(self):
        self.length, self.names, self.first, self.last, self.entries = 1, 2, 0, 0, []

    def looked_at(self):
        """Each year that is looked at, with its name and which year of the reign it is."""
        year = self.first
        for name in itertools.cycle(range(self.names)):
            for place in range(self.length):
                if year > self.last:
                    return
                yield year, name, place
                year += 1

    def years(self, entry):
        name, place, known = entry
        found = [year for year, k, j in self.looked_at() if (k, j) == (name, place)]
        return found if known is None else [year for year in found if year == known]

    def readings(self):
        choices = [self.years(entry) for entry in self.entries]
        return [reading for reading in itertools.product(*choices)
                if all(a < b for a, b in zip(reading, reading[1:]))]

    def answer(self, call):
        words = ("start", "tell", "drop", "know", "forget", "up_to", "name", "how_many", "soonest", "latest", "count")
        return getattr(self, "ny_" + words[call[0]])(*call[1:])

    def ny_start(self, t, n, f, e):
        if not (1 <= t <= 40 and 2 <= n <= 16 and f <= 500 and f <= e <= 2000):
            return [-22]
        self.length, self.names, self.first, self.last, self.entries = t, n, f, e, []
        return [0]

    def ny_tell(self, k, j):
        if k not in range(self.names) or j not in range(self.length):
            return [-22]
        if len(self.entries) >= 10:
            return [-28]
        self.entries.append((k, j, None))
        return [len(self.entries) - 1]

    def ny_drop(self):
        if not self.entries:
            return [-6]
        self.entries.pop()
        return [len(self.entries)]

    def ny_know(self, i, y):
        if i >= len(self.entries):
            return [-2]
        if self.entries[i][2] is not None:
            return [-17]
        if y not in self.years(self.entries[i]):
            return [-33]
        self.entries[i] = self.entries[i][:2] + (y,)
        return [0]

    def ny_forget(self, i):
        if i >= len(self.entries):
            return [-2]
        known = self.entries[i][2]
        if known is None:
            return [-6]
        self.entries[i] = self.entries[i][:2] + (None,)
        return [known]

    def ny_up_to(self, e):
        if not self.first <= e <= 2000:
            return [-22]
        if e == self.last:
            return [-17]
        before, self.last = self.last, e
        return [before]

    def ny_name(self, y):
        if y > 2000:
            return [-22]
        if y < self.first:
            return [-33]
        kept, self.last = self.last, y
        told = list(self.looked_at())
        self.last = kept
        _, name, place = told[-1]
        return [name, place, len([1 for _, k, j in told if (k, j) == (name, place)]) - 1]

    def ny_how_many(self, i):
        if i >= len(self.entries):
            return [-2]
        found = self.years(self.entries[i])
        return [len(found), min(found, default=0), max(found, default=0)]

    def reading(self, pick):
        """In no reading is any entry sooner, or later: so each entry's own soonest or latest year will do."""
        readings = self.readings()
        if not readings:
            return [-33]
        found = [pick(column) for column in zip(*readings)]
        return [len(found)] + found + [0] * (10 - len(found))

    def ny_soonest(self):
        return self.reading(min)

    def ny_latest(self):
        return self.reading(max)

    def ny_count(self):
        total = len(self.readings())
        return [1 if total else 0, total % 1000000007]


def some_call(dice, tried):
    """Mostly calls that aren't refused, within few years, so that all readings can be tried."""
    t, n, f = tried.length, tried.names, tried.first
    number = dice.choice((1, 1, 1, 2, 3, 3, 4, 4, 5, 6, 7))
    if number == 1 and len(tried.entries) == 5:
        number = 2
    entry = dice.randrange(len(tried.entries) + 1)
    year = f + dice.randrange(5 * t * n)
    if number == 3 and entry < len(tried.entries) and dice.random() < 0.8:
        year = dice.choice(tried.years(tried.entries[entry]) or [year])
    return {
        1: [1, dice.randrange(n + 1) if dice.random() < 0.1 else dice.randrange(n), dice.randrange(t)],
        2: [2], 3: [3, entry, year], 4: [4, entry], 5: [5, f + dice.randrange(4 * t * n)],
        6: [6, max(0, year - 2)], 7: [7, entry],
    }[number]


def some_calls_and_answers(seed):
    dice = random.Random(seed)
    t, n, f = dice.randint(1, 3), dice.randint(2, 3), dice.choice((0, 1, 7, 500))
    tried = Tried()
    calls = [[0, t, n, f, f + dice.randrange(4 * t * n)]]
    answered = [tried.answer(calls[0])]
    for turn in range(40):
        call = some_call(dice, tried)
        for each in [call] + ([[8], [9], [10]] if call[0] < 6 else []):
            calls.append(each)
            answered.append(tried.answer(each))
    return calls, answered


class ByTryingAll(unittest.TestCase):
    def test_many_lists(self):
        for seed in range(150):
            calls, answered = some_calls_and_answers(seed)
            with self.subTest(seed=seed):
                self.assertEqual(run(*calls), answered)


if __name__ == "__main__":
    unittest.main()
