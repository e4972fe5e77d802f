"""What holds over the whole program, by trying all readings of small cases and all years."""

import itertools
import unittest

from reignyears.annals import answers
from support import (again, back, could, count, drop, forget, how_told, know, latest, name, one, one_list, padded,
                     rounds, run, soonest, split, start, state, sure, tell, up_to, when, years)

# t, n, f, e: how the reigns run, with rounds of 2 to 6 years and from one to five rounds, the last of them cut short.
SMALL = (
    (1, 2, 0, 0), (1, 2, 0, 1), (1, 2, 0, 6), (1, 2, 3, 12), (2, 2, 0, 9), (2, 2, 5, 17), (1, 3, 0, 8),
    (1, 3, 500, 510), (2, 3, 1, 19), (3, 2, 4, 24),
)
MOST_TOLD = 3


def told_years(t, n, f, e):
    """For each name and year of a reign the years that are told so, by counting."""
    found = {told: [] for told in itertools.product(range(n), range(t))}
    turns = itertools.cycle(found)
    for year in range(f, e + 1):
        found[next(turns)].append(year)
    return found


def all_readings(years_of_each):
    """All of them, also the one without entries."""
    return [reading for reading in itertools.product(*years_of_each)
            if all(a < b for a, b in zip(reading, reading[1:]))]


def small_cases():
    """How it starts, what is told, and the years of each entry."""
    for numbers in SMALL:
        found = told_years(*numbers)
        for entries in range(MOST_TOLD + 1):
            for told in itertools.product(found, repeat=entries):
                yield numbers, [start(*numbers)] + [tell(*each) for each in told], [found[each] for each in told]


def some_small_cases():
    """Fewer of them, for what is tried in many ways each."""
    return [case for case in small_cases() if case[0][3] - case[0][2] < 12 and len(case[2]) < 3]


class Readings(unittest.TestCase):
    def questions(self, entries, f, e):
        asked = [soonest(), latest(), count(), one(), sure()]
        for i in range(entries):
            asked += [when(i), rounds(i)] + [could(i, y) for y in range(max(0, f - 1), e + 2)]
        return asked

    def expected(self, readings, entries, t, n, f, e):
        """What these questions answer, told from the list of all readings alone."""
        if not readings:
            return [[-33], [-33], [0, 0], [-33], [-33]] + ([[-33], [-33]] + [[0]] * (e + 2 - max(0, f - 1))) * entries
        columns = [sorted(set(column)) for column in zip(*readings)]
        fixed = [i for i in range(entries) if len(columns[i]) == 1]
        told = [padded(*[column[0] for column in columns]), padded(*[column[-1] for column in columns]),
                [1, len(readings)], [1 if len(readings) == 1 else 0], [len(fixed), sum(2 ** i for i in fixed)]]
        for column in columns:
            told += [[column[0], column[-1]], [(column[-1] - column[0]) // (t * n)]]
            told += [[1 if y in column else 0] for y in range(max(0, f - 1), e + 2)]
        return told

    def test_all_questions_against_all_readings(self):
        for (t, n, f, e), calls, years_of_each in small_cases():
            entries = len(years_of_each)
            readings = all_readings(years_of_each)
            asked = self.questions(entries, f, e)
            self.assertEqual(run(*calls, *asked)[len(calls):], self.expected(readings, entries, t, n, f, e), calls)

    def test_the_soonest_and_the_latest_are_readings(self):
        for numbers, calls, years_of_each in small_cases():
            readings = all_readings(years_of_each)
            both = run(*calls, soonest(), latest())[-2:]
            for answer in both:
                self.assertTrue(answer == [-33] and not readings or tuple(answer[1:1 + answer[0]]) in readings, calls)

    def test_just_one_just_if_the_soonest_is_the_latest(self):
        for numbers, calls, years_of_each in small_cases():
            first, behind, single, total = run(*calls, soonest(), latest(), one(), count())[-4:]
            self.assertEqual(single == [1], first == behind and first != [-33], calls)
            self.assertEqual(single == [1], total == [1, 1], calls)
            self.assertEqual(single == [-33], total == [0, 0], calls)

    def test_years_that_an_entry_may_be_are_whole_rounds_apart(self):
        for (t, n, f, e), calls, years_of_each in small_cases():
            for i in range(len(years_of_each)):
                asked = [could(i, y) for y in range(f, e + 1)]
                may_be = [f + at for at, answer in enumerate(run(*calls, *asked)[len(calls):]) if answer == [1]]
                self.assertEqual([y for y in may_be if (y - may_be[0]) % (t * n) != 0], [], calls)


class KnownAndForgotten(unittest.TestCase):
    def test_known_no_more_forgotten_no_fewer(self):
        for numbers, calls, years_of_each in some_small_cases():
            total = len(all_readings(years_of_each))
            for i, own_years in enumerate(years_of_each):
                for y in own_years:
                    left = len(all_readings(years_of_each[:i] + [[y]] + years_of_each[i + 1:]))
                    self.assertLessEqual(left, total)
                    answered = run(*calls, count(), know(i, y), count(), forget(i), count())[len(calls):]
                    self.assertEqual(answered, [[min(1, total), total], [0], [min(1, left), left], [y],
                                                [min(1, total), total]], (calls, i, y))

    def test_the_readings_of_each_year_known_are_all_readings(self):
        for numbers, calls, years_of_each in some_small_cases():
            for i, own_years in enumerate(years_of_each):
                counts = [run(*calls, know(i, y), count())[-1][1] for y in own_years]
                self.assertEqual(sum(counts), run(*calls, count())[-1][1], (calls, i))


class LookedAtFarther(unittest.TestCase):
    def test_as_many_readings_or_more_and_the_soonest_the_same(self):
        for (t, n, f, e), calls, years_of_each in some_small_cases():
            farther = range(e + 1, e + 2 * t * n + 2)
            for known in [()] + [(know(i, y),) for i, own in enumerate(years_of_each) for y in own]:
                asked = [each for y in farther for each in (up_to(y), soonest(), count())]
                answered = run(*calls, *known, soonest(), count(), *asked)[len(calls) + len(known):]
                firsts = answered[0:1] + answered[3::3]
                totals = [answer[1] for answer in answered[1:2] + answered[4::3]]
                self.assertEqual(totals, sorted(totals), calls)
                there = [answer for answer in firsts if answer != [-33]]
                self.assertEqual(there, there[:1] * len(there), calls)
                # Once there's a reading there is one however much farther it's looked at.
                self.assertEqual(firsts, [[-33]] * (len(firsts) - len(there)) + there, calls)


class EachYear(unittest.TestCase):
    def test_told_by_one_name_and_one_year_of_a_reign(self):
        for t, n, f in ((1, 2, 0), (1, 16, 3), (40, 2, 77), (7, 5, 23), (40, 16, 500), (3, 3, 499)):
            asked = [name(y) for y in range(f, 2001)]
            names = []
            for at in range(0, len(asked), 900):
                names += run(start(t, n, f, f), *asked[at:at + 900])[1:]
            counted = [[k, j, turn] for turn in range(2001) for k in range(n) for j in range(t)][:2001 - f]
            self.assertEqual(names, counted)

    def test_before_the_first_none(self):
        for t, n, f in ((1, 2, 1), (40, 16, 500)):
            self.assertEqual(run(start(t, n, f, 2000), *[name(y) for y in range(f)])[1:], [[-33]] * f)

    def test_an_entry_told_so_has_that_year_and_no_other_entry_has(self):
        for t, n, f, e in SMALL:
            for y in range(f, e + 1):
                k, j, turn = run(start(t, n, f, e), name(y))[-1]
                having = [told for told in itertools.product(range(n), range(t))
                          if run(start(t, n, f, e), tell(*told), could(0, y))[-1] == [1]]
                self.assertEqual(having, [(k, j)])


class TakenBack(unittest.TestCase):
    def changes(self, t, n, f, e, years_of_each):
        entries = len(years_of_each)
        found = [tell(k, j) for k in range(n) for j in range(t)] + [up_to(y) for y in range(f, e + 3) if y != e]
        found += [know(i, y) for i in range(entries) for y in years_of_each[i]]
        return found + ([drop()] if entries else [])

    def test_all_is_as_it_was(self):
        for (t, n, f, e), calls, years_of_each in some_small_cases():
            asked = [soonest(), latest(), count(), one(), sure()]
            asked += [each for i in range(3) for each in (years(i), when(i), how_told(i))]
            before = run(*calls, state(), *asked)[len(calls):]
            for change in self.changes(t, n, f, e, years_of_each):
                behind = run(*calls, change, state(), *asked)[len(calls) + 1:]
                answered = run(*calls, change, back(), state(), *asked, again(), state(), *asked)[len(calls) + 1:]
                half = len(answered) // 2
                self.assertEqual(answered[0], [len(years_of_each)])
                self.assertEqual(answered[1], before[0][:6] + [1])
                self.assertEqual(answered[2:half], before[1:], (calls, change))
                self.assertEqual(answered[half], [0])
                self.assertEqual(answered[half + 1:], behind, (calls, change))


class HandedIn(unittest.TestCase):
    def test_it_stays_as_it_was_and_answers_the_same_again(self):
        for numbers, calls, years_of_each in some_small_cases():
            handed = one_list(calls + [soonest(), back(), sure(), again(), state()])
            kept = list(handed)
            first = answers(handed)
            self.assertEqual(handed, kept)
            self.assertEqual(answers(handed), first)
            self.assertEqual(len(split(first)), len(calls) + 5)


if __name__ == "__main__":
    unittest.main()
