"""Many lists of calls, each answer held against one found by trying all readings."""

import itertools
import random
import unittest

from support import run


WORDS = ("start", "tell", "drop", "know", "forget", "up_to", "name", "how_many", "soonest", "latest", "count", "sure",
         "when", "apart", "one", "rounds", "could", "told", "back", "again", "state")


class Tried:
    """The words of the document, year by year and reading by reading; what's taken back by doing all else anew."""

    def __init__(self):
        self.tried = {}
        self.begin(1, 2, 0, 0)

    def begin(self, t, n, f, e):
        self.begun = t, n, f, e
        self.length, self.names, self.first, self.last, self.entries = t, n, f, e, []
        self.done, self.fixed, self.undone = [], 0, []

    def looked_at(self):
        """Each year that is looked at, with its name and which year of the reign it is."""
        year = self.first
        for name in itertools.cycle(range(self.names)):
            for place in range(self.length):
                if year > self.last:
                    return
                yield year, name, place
                year += 1

    def years(self, entry):
        name, place, known = entry
        found = [year for year, k, j in self.looked_at() if (k, j) == (name, place)]
        return found if known is None else [year for year in found if year == known]

    def readings(self):
        state = (self.begun, self.last, tuple(self.entries))
        if state not in self.tried:
            choices = [self.years(entry) for entry in self.entries]
            self.tried[state] = [reading for reading in itertools.product(*choices)
                                 if all(a < b for a, b in zip(reading, reading[1:]))]
        return self.tried[state]

    def own(self, i):
        """The years that the entry has in the readings."""
        return [reading[i] for reading in self.readings()]

    def answer(self, call):
        answered = self.plain_answer(call)
        if 1 <= call[0] <= 5 and answered[0] >= 0:
            self.done, self.undone = self.done + [call], []
            self.fixed = max(self.fixed, len(self.done) - 20)
        return answered

    def plain_answer(self, call):
        return getattr(self, "ny_" + WORDS[call[0]])(*call[1:])

    def ny_start(self, t, n, f, e):
        if not (1 <= t <= 40 and 2 <= n <= 16 and f <= 500 and f <= e <= 2000):
            return [-22]
        self.begin(t, n, f, e)
        return [0]

    def ny_tell(self, k, j):
        if k not in range(self.names) or j not in range(self.length):
            return [-22]
        if len(self.entries) >= 10:
            return [-28]
        self.entries.append((k, j, None))
        return [len(self.entries) - 1]

    def ny_drop(self):
        if not self.entries:
            return [-6]
        self.entries.pop()
        return [len(self.entries)]

    def ny_know(self, i, y):
        if i >= len(self.entries):
            return [-2]
        if self.entries[i][2] is not None:
            return [-17]
        if y not in self.years(self.entries[i]):
            return [-33]
        self.entries[i] = self.entries[i][:2] + (y,)
        return [0]

    def ny_forget(self, i):
        if i >= len(self.entries):
            return [-2]
        known = self.entries[i][2]
        if known is None:
            return [-6]
        self.entries[i] = self.entries[i][:2] + (None,)
        return [known]

    def ny_up_to(self, e):
        if not self.first <= e <= 2000:
            return [-22]
        if e == self.last:
            return [-17]
        before, self.last = self.last, e
        return [before]

    def ny_name(self, y):
        if y > 2000:
            return [-22]
        if y < self.first:
            return [-33]
        kept, self.last = self.last, y
        told = list(self.looked_at())
        self.last = kept
        _, name, place = told[-1]
        return [name, place, len([1 for _, k, j in told if (k, j) == (name, place)]) - 1]

    def ny_how_many(self, i):
        if i >= len(self.entries):
            return [-2]
        found = self.years(self.entries[i])
        return [len(found), min(found, default=0), max(found, default=0)]

    def reading(self, pick):
        """In no reading is any entry sooner, or later: so each entry's own soonest or latest year will do."""
        readings = self.readings()
        if not readings:
            return [-33]
        found = [pick(column) for column in zip(*readings)]
        return [len(found)] + found + [0] * (10 - len(found))

    def ny_soonest(self):
        return self.reading(min)

    def ny_latest(self):
        return self.reading(max)

    def ny_count(self):
        total = len(self.readings())
        return [1 if total else 0, total % 1000000007]


    def ny_sure(self):
        if not self.readings():
            return [-33]
        fixed = [i for i in range(len(self.entries)) if len(set(self.own(i))) == 1]
        return [len(fixed), sum(2 ** i for i in fixed)]

    def ny_when(self, i):
        if i >= len(self.entries):
            return [-2]
        return [min(self.own(i)), max(self.own(i))] if self.readings() else [-33]

    def ny_apart(self, i, j):
        if i >= len(self.entries) or j >= len(self.entries) or j <= i:
            return [-2]
        if not self.readings():
            return [-33]
        return [max(0, min(self.own(j)) - max(self.own(i))), max(self.own(j)) - min(self.own(i))]

    def ny_one(self):
        return [1 if len(self.readings()) == 1 else 0] if self.readings() else [-33]

    def ny_rounds(self, i):
        if i >= len(self.entries):
            return [-2]
        return [len(range(min(self.own(i)), max(self.own(i)), self.length * self.names))] if self.readings() else [-33]

    def ny_could(self, i, y):
        if i >= len(self.entries):
            return [-2]
        if y > 2000:
            return [-22]
        return [1 if y in self.own(i) else 0]

    def ny_told(self, i):
        if i >= len(self.entries):
            return [-2]
        name, place, known = self.entries[i]
        return [name, place, 0 if known is None else known + 1]

    def do_all_anew(self, done, fixed, undone):
        self.begin(*self.begun)
        for call in done:
            self.plain_answer(call)
        self.done, self.fixed, self.undone = done, fixed, undone

    def ny_back(self):
        if len(self.done) == self.fixed:
            return [-2]
        self.do_all_anew(self.done[:-1], self.fixed, self.undone + self.done[-1:])
        return [len(self.done) - self.fixed]

    def ny_again(self):
        if not self.undone:
            return [-2]
        self.do_all_anew(self.done + self.undone[-1:], self.fixed, self.undone[:-1])
        return [len(self.undone)]

    def ny_state(self):
        return [len(self.entries), self.length, self.names, self.first, self.last,
                len(self.done) - self.fixed, len(self.undone)]


CHANGING = (1, 1, 1, 2, 3, 3, 4, 4, 5)


def some_call(dice, tried):
    """Mostly calls that aren't refused, within few years, so that all readings can be tried."""
    t, n, f = tried.length, tried.names, tried.first
    number = dice.choice(CHANGING + (6, 18, 18, 19))
    if number == 1 and len(tried.entries) == 5:
        number = 2
    entry = dice.randrange(len(tried.entries) + 1)
    year = f + dice.randrange(5 * t * n)
    if number == 3 and entry < len(tried.entries) and dice.random() < 0.8:
        year = dice.choice(tried.years(tried.entries[entry]) or [year])
    return {
        1: [1, dice.randrange(n + 1) if dice.random() < 0.1 else dice.randrange(n), dice.randrange(t)],
        2: [2], 3: [3, entry, year], 4: [4, entry], 5: [5, f + dice.randrange(4 * t * n)],
        6: [6, max(0, year - 2)], 18: [18], 19: [19],
    }[number]


def some_calls(dice, tried):
    """A call, or a row of some taken back or done again."""
    if dice.random() < 0.05:
        return [[dice.choice((18, 19))]] * dice.randrange(2, 24)
    if dice.random() < 0.05:
        return [[5, tried.first + number % 7] for number in range(dice.randrange(15, 30))]
    if dice.random() < 0.01:
        return [[0, dice.randrange(4), dice.randrange(1, 4), tried.first, tried.first + dice.randrange(20)]]
    return [some_call(dice, tried)]


def questions(dice, tried):
    """All of them; of entries and years some."""
    i, j = [dice.randrange(len(tried.entries) + 1) for turn in range(2)]
    year = tried.first + dice.randrange(4 * tried.length * tried.names)
    asked = [[8], [9], [10], [11], [14], [20], [7, i], [12, i], [15, i], [17, i], [13, i, j],
             [13, min(i, j), max(i, j)], [16, i, year]]
    if i < len(tried.entries):
        asked += [[16, i, year] for year in tried.years(tried.entries[i])]
    return asked


def some_calls_and_answers(seed):
    dice = random.Random(seed)
    t, n, f = dice.randint(1, 3), dice.randint(2, 3), dice.choice((0, 1, 7, 500))
    tried = Tried()
    calls = [[0, t, n, f, f + dice.randrange(4 * t * n)]]
    answered = [tried.answer(calls[0])]
    while len(calls) < 950:
        for call in some_calls(dice, tried):
            calls.append(call)
            answered.append(tried.answer(call))
        for call in questions(dice, tried):
            calls.append(call)
            answered.append(tried.answer(call))
    return calls[:1000], answered[:1000]


class ByTryingAll(unittest.TestCase):
    def test_many_lists(self):
        for seed in range(150):
            calls, answered = some_calls_and_answers(seed)
            with self.subTest(seed=seed):
                self.assertEqual(run(*calls), answered)

    def test_they_hold_all_that_can_be_answered(self):
        answered_first = {}
        most_back = most_again = 0
        for seed in range(30):
            for call, answer in zip(*some_calls_and_answers(seed)):
                answered_first.setdefault(call[0], set()).add(min(answer[0], 0))
                if call == [20]:
                    most_back, most_again = max(most_back, answer[5]), max(most_again, answer[6])
        self.assertEqual((most_back, most_again), (20, 20))
        self.assertEqual(answered_first, {
            0: {0, -22}, 1: {0, -22}, 2: {0, -6}, 3: {0, -2, -17, -33}, 4: {0, -2, -6}, 5: {0, -17}, 6: {0, -33},
            7: {0, -2}, 8: {0, -33}, 9: {0, -33}, 10: {0}, 11: {0, -33}, 12: {0, -2, -33}, 13: {0, -2, -33},
            14: {0, -33}, 15: {0, -2, -33}, 16: {0, -2}, 17: {0, -2}, 18: {0, -2}, 19: {0, -2}, 20: {0}})


if __name__ == "__main__":
    unittest.main()
