import math
import unittest

from support import (LARGEST, NO_YEARS, count, drop, forget, know, last, latest, name, padded, run, soonest, start,
                     tell, up_to, years)

# Reigns of 4 years and 3 names from year 10 on: a round is 12 years.
START = start(4, 3, 10, 60)
# Every second year has the same name.
SHORTEST = start(1, 2, 0, 2000)


class Name(unittest.TestCase):
    def test_before_and_at_the_first_year(self):
        self.assertEqual(run(START, name(0), name(9), name(10)), [[0], [-33], [-33], [0, 0, 0]])

    def test_years_of_the_reign_then_names_then_rounds(self):
        self.assertEqual(run(START, name(11), name(13), name(14), name(17), name(18), name(21), name(22), name(45)),
                         [[0], [0, 1, 0], [0, 3, 0], [1, 0, 0], [1, 3, 0], [2, 0, 0], [2, 3, 0], [0, 0, 1], [2, 3, 2]])

    def test_behind_the_last_that_is_looked_at(self):
        self.assertEqual(run(START, name(60), name(61), up_to(10), name(61), name(1999)),
                         [[0], [0, 2, 4], [0, 3, 4], [60], [0, 3, 4], [2, 1, 165]])

    def test_the_highest_year_and_what_is_above(self):
        self.assertEqual(run(START, name(2000), name(2001), name(LARGEST)), [[0], [2, 2, 165], [-22], [-22]])

    def test_from_the_highest_first_year(self):
        self.assertEqual(run(start(40, 16, 500, 500), name(499), name(500), name(1139), name(1140), name(2000)),
                         [[0], [-33], [0, 0, 0], [15, 39, 0], [0, 0, 1], [5, 20, 2]])

    def test_from_year_0(self):
        self.assertEqual(run(SHORTEST, name(0), name(1), name(2), name(2000), name(2001)),
                         [[0], [0, 0, 0], [1, 0, 0], [0, 0, 1], [0, 0, 1000], [-22]])

    def test_each_year_has_the_name_that_counting_gives(self):
        t, n, f = 7, 5, 23
        k, j, turns = 0, 0, 0
        told = []
        for year in range(f, 401):
            told.append([k, j, turns])
            j += 1
            if j == t:
                j, k = 0, k + 1
            if k == n:
                k, turns = 0, turns + 1
        self.assertEqual(run(start(t, n, f, 100), *[name(year) for year in range(f, 401)])[1:], told)


class Years(unittest.TestCase):
    def test_there_is_none(self):
        self.assertEqual(run(START, years(0), tell(0, 0), years(1), years(LARGEST)), [[0], [-2], [0], [-2], [-2]])

    def test_no_year_one_several(self):
        told = (tell(1, 2), years(0))
        for last_year, answer in ((15, [0, 0, 0]), (16, [1, 16, 16]), (27, [1, 16, 16]), (28, [2, 16, 28]),
                                  (60, [4, 16, 52]), (2000, [166, 16, 1996])):
            with self.subTest(last_year=last_year):
                self.assertEqual(last(start(4, 3, 10, last_year), *told), answer)

    def test_as_many_as_there_can_be(self):
        self.assertEqual(run(SHORTEST, tell(0, 0), tell(1, 0), years(0), years(1))[3:],
                         [[1001, 0, 2000], [1000, 1, 1999]])

    def test_year_0_alone_is_not_none(self):
        self.assertEqual(last(start(1, 2, 0, 0), tell(0, 0), years(0)), [1, 0, 0])

    def test_the_order_does_not_matter(self):
        self.assertEqual(run(START, tell(2, 3), tell(0, 0), years(0), years(1))[3:], [[4, 21, 57], [5, 10, 58]])

    def test_known(self):
        self.assertEqual(last(START, tell(1, 2), know(0, 28), years(0)), [1, 28, 28])

    def test_known_at_the_last_year_and_behind_it(self):
        self.assertEqual(run(START, tell(1, 2), know(0, 28), up_to(28), years(0), up_to(27), years(0))[3:],
                         [[60], [1, 28, 28], [28], [0, 0, 0]])


class SoonestAndLatest(unittest.TestCase):
    def both(self, *calls):
        answered = run(*calls, soonest(), latest())
        return answered[-2], answered[-1]

    def test_no_entries(self):
        self.assertEqual(self.both(START), ([0] + NO_YEARS, [0] + NO_YEARS))

    def test_no_entries_any_more(self):
        self.assertEqual(self.both(START, tell(0, 0), drop()), ([0] + NO_YEARS, [0] + NO_YEARS))

    def test_one(self):
        self.assertEqual(self.both(START, tell(1, 2)), (padded(16), padded(52)))

    def test_one_in_year_0(self):
        self.assertEqual(self.both(start(1, 2, 0, 1), tell(0, 0)), (padded(0), padded(0)))

    def test_the_order_matters(self):
        self.assertEqual(self.both(START, tell(0, 1), tell(2, 0)), (padded(11, 18), padded(47, 54)))
        self.assertEqual(self.both(START, tell(2, 0), tell(0, 1)), (padded(18, 23), padded(54, 59)))

    def test_told_the_same_way_they_are_a_round_apart(self):
        self.assertEqual(self.both(START, tell(1, 0), tell(1, 0), tell(1, 0)), (padded(14, 26, 38), padded(26, 38, 50)))

    def test_what_is_known_moves_the_others(self):
        self.assertEqual(self.both(START, tell(0, 0), tell(1, 0), tell(0, 0), know(1, 26)),
                         (padded(10, 26, 34), padded(22, 26, 58)))

    def test_no_reading(self):
        for calls in (
            (start(4, 3, 10, 13), tell(1, 0)),
            (start(4, 3, 10, 21), tell(1, 0), tell(0, 0)),
            (start(4, 3, 10, 25), tell(1, 0), tell(1, 0)),
            (START, tell(0, 0), tell(0, 0), know(0, 58)),
            (START, tell(0, 0), tell(0, 0), know(0, 34), know(1, 22)),
            (START, tell(0, 0), tell(0, 0), know(0, 22), know(1, 22)),
            (START, tell(0, 0), know(0, 58), up_to(57)),
        ):
            with self.subTest(calls=calls):
                self.assertEqual(self.both(*calls), ([-33], [-33]))

    def test_just_enough_years(self):
        self.assertEqual(self.both(start(4, 3, 10, 22), tell(1, 0), tell(0, 0)), (padded(14, 22), padded(14, 22)))

    def test_ten_entries(self):
        told = [tell(i % 3, i % 4) for i in range(10)]
        first = [10, 10, 15, 20, 25, 26, 31, 36, 41, 42, 47]
        self.assertEqual(self.both(START, *told), (first, [10, 22, 27, 32, 37, 38, 43, 48, 53, 54, 59]))
        self.assertEqual(self.both(START, *told, up_to(47)), (first, first))
        self.assertEqual(self.both(START, *told, up_to(46)), ([-33], [-33]))

    def test_ten_entries_in_just_as_many_years(self):
        told = [tell(i % 2, 0) for i in range(10)]
        years_told = list(range(10))
        self.assertEqual(self.both(start(1, 2, 0, 9), *told), ([10] + years_told, [10] + years_told))
        self.assertEqual(self.both(start(1, 2, 0, 8), *told), ([-33], [-33]))

    def test_ten_numbers_of_out_whichever_entries_there_are(self):
        calls = [SHORTEST]
        for there in range(11):
            self.assertEqual([len(answer) for answer in self.both(*calls)], [11, 11])
            self.assertEqual([answer[0] for answer in self.both(*calls)], [there, there])
            calls.append(tell(0, 0))

    def test_looked_at_farther_the_soonest_is_the_same(self):
        told = (tell(1, 0), tell(0, 3), tell(0, 3))
        answered = run(start(4, 3, 10, 37), *told, soonest(), latest(), up_to(2000), soonest(), latest())[4:]
        self.assertEqual(answered, [padded(14, 25, 37), padded(14, 25, 37), [37],
                                    padded(14, 25, 37), padded(1970, 1981, 1993)])


class Count(unittest.TestCase):
    def test_no_entries(self):
        self.assertEqual(last(START, count()), [1, 1])
        self.assertEqual(last(START, tell(0, 0), drop(), count()), [1, 1])

    def test_no_reading(self):
        self.assertEqual(last(start(4, 3, 10, 13), tell(1, 0), count()), [0, 0])
        self.assertEqual(last(start(4, 3, 10, 25), tell(1, 0), tell(1, 0), count()), [0, 0])
        self.assertEqual(last(START, tell(0, 0), tell(0, 0), know(0, 58), count()), [0, 0])

    def test_one_entry_has_as_many_as_years(self):
        self.assertEqual(last(START, tell(1, 2), count()), [1, 4])
        self.assertEqual(last(START, tell(1, 2), know(0, 28), count()), [1, 1])

    def test_several(self):
        self.assertEqual(last(START, tell(0, 1), tell(2, 0), count()), [1, 10])
        self.assertEqual(last(START, tell(2, 0), tell(0, 1), count()), [1, 10])
        self.assertEqual(last(START, tell(1, 0), tell(1, 0), count()), [1, 6])
        self.assertEqual(last(START, tell(1, 0), tell(1, 0), tell(1, 0), tell(1, 0), count()), [1, 1])

    def test_known_it_is_no_more_and_forgotten_no_fewer(self):
        told = (START, tell(0, 0), tell(1, 0), tell(0, 0))
        self.assertEqual(run(*told, count(), know(1, 26), count(), forget(1), count())[4:],
                         [[1, 20], [0], [1, 6], [26], [1, 20]])

    def test_looked_at_farther(self):
        self.assertEqual(run(start(4, 3, 10, 25), tell(1, 0), tell(1, 0), count(), up_to(26), count(),
                             up_to(38), count(), up_to(25), count())[3::2],
                         [[0, 0], [1, 1], [1, 3], [0, 0]])

    def test_above_1000000007(self):
        ways = math.comb(1001, 10)
        self.assertGreater(ways, 1000000007)
        self.assertEqual(last(SHORTEST, *[tell(0, 0)] * 10, count()), [1, ways % 1000000007])

    def test_below_1000000007_and_the_first_above(self):
        self.assertEqual(last(SHORTEST, *[tell(0, 0)] * 3, count()), [1, math.comb(1001, 3)])
        # Of four in m years each the ways go past 1,000,000,007 from m = 395 to m = 396.
        self.assertLess(math.comb(395, 4), 1000000007)
        self.assertEqual(last(start(1, 2, 0, 788), *[tell(0, 0)] * 4, count()), [1, math.comb(395, 4)])
        self.assertEqual(last(start(1, 2, 0, 790), *[tell(0, 0)] * 4, count()), [1, math.comb(396, 4) - 1000000007])


if __name__ == "__main__":
    unittest.main()
