import math
import unittest

from support import (LARGEST, NO_YEARS, apart, could, count, drop, forget, know, last, latest, one, padded, rounds, run,
                     soonest, start, sure, tell, up_to, when, years)

# Reigns of 4 years and 3 names from year 10 on: a round is 12 years.
START = start(4, 3, 10, 60)
# Every second year has the same name.
SHORTEST = start(1, 2, 0, 2000)
# There's no reading: the second would have to be in the same year as the first, or before it.
NONE = (START, tell(0, 0), tell(0, 0), tell(1, 0), know(0, 34), know(1, 34))


class SoonestAndLatest(unittest.TestCase):
    def both(self, *calls):
        answered = run(*calls, soonest(), latest())
        return answered[-2], answered[-1]

    def test_no_entries(self):
        self.assertEqual(self.both(START), ([0] + NO_YEARS, [0] + NO_YEARS))

    def test_no_entries_any_more(self):
        self.assertEqual(self.both(START, tell(0, 0), drop()), ([0] + NO_YEARS, [0] + NO_YEARS))

    def test_one(self):
        self.assertEqual(self.both(START, tell(1, 2)), (padded(16), padded(52)))

    def test_one_in_year_0(self):
        self.assertEqual(self.both(start(1, 2, 0, 1), tell(0, 0)), (padded(0), padded(0)))

    def test_the_order_matters(self):
        self.assertEqual(self.both(START, tell(0, 1), tell(2, 0)), (padded(11, 18), padded(47, 54)))
        self.assertEqual(self.both(START, tell(2, 0), tell(0, 1)), (padded(18, 23), padded(54, 59)))

    def test_told_the_same_way_they_are_a_round_apart(self):
        self.assertEqual(self.both(START, tell(1, 0), tell(1, 0), tell(1, 0)), (padded(14, 26, 38), padded(26, 38, 50)))

    def test_what_is_known_moves_the_others(self):
        self.assertEqual(self.both(START, tell(0, 0), tell(1, 0), tell(0, 0), know(1, 26)),
                         (padded(10, 26, 34), padded(22, 26, 58)))

    def test_no_reading(self):
        for calls in (
            (start(4, 3, 10, 13), tell(1, 0)),
            (start(4, 3, 10, 21), tell(1, 0), tell(0, 0)),
            (start(4, 3, 10, 25), tell(1, 0), tell(1, 0)),
            (START, tell(0, 0), tell(0, 0), know(0, 58)),
            (START, tell(0, 0), tell(0, 0), know(0, 34), know(1, 22)),
            (START, tell(0, 0), tell(0, 0), know(0, 22), know(1, 22)),
            (START, tell(0, 0), know(0, 58), up_to(57)),
        ):
            with self.subTest(calls=calls):
                self.assertEqual(self.both(*calls), ([-33], [-33]))

    def test_just_enough_years(self):
        self.assertEqual(self.both(start(4, 3, 10, 22), tell(1, 0), tell(0, 0)), (padded(14, 22), padded(14, 22)))

    def test_ten_entries(self):
        told = [tell(i % 3, i % 4) for i in range(10)]
        first = [10, 10, 15, 20, 25, 26, 31, 36, 41, 42, 47]
        self.assertEqual(self.both(START, *told), (first, [10, 22, 27, 32, 37, 38, 43, 48, 53, 54, 59]))
        self.assertEqual(self.both(START, *told, up_to(47)), (first, first))
        self.assertEqual(self.both(START, *told, up_to(46)), ([-33], [-33]))

    def test_ten_entries_in_just_as_many_years(self):
        told = [tell(i % 2, 0) for i in range(10)]
        years_told = list(range(10))
        self.assertEqual(self.both(start(1, 2, 0, 9), *told), ([10] + years_told, [10] + years_told))
        self.assertEqual(self.both(start(1, 2, 0, 8), *told), ([-33], [-33]))

    def test_ten_numbers_of_out_whichever_entries_there_are(self):
        calls = [SHORTEST]
        for there in range(11):
            self.assertEqual([len(answer) for answer in self.both(*calls)], [11, 11])
            self.assertEqual([answer[0] for answer in self.both(*calls)], [there, there])
            calls.append(tell(0, 0))

    def test_looked_at_farther_the_soonest_is_the_same(self):
        told = (tell(1, 0), tell(0, 3), tell(0, 3))
        answered = run(start(4, 3, 10, 37), *told, soonest(), latest(), up_to(2000), soonest(), latest())[4:]
        self.assertEqual(answered, [padded(14, 25, 37), padded(14, 25, 37), [37],
                                    padded(14, 25, 37), padded(1970, 1981, 1993)])


class Count(unittest.TestCase):
    def test_no_entries(self):
        self.assertEqual(last(START, count()), [1, 1])
        self.assertEqual(last(START, tell(0, 0), drop(), count()), [1, 1])

    def test_no_reading(self):
        self.assertEqual(last(start(4, 3, 10, 13), tell(1, 0), count()), [0, 0])
        self.assertEqual(last(start(4, 3, 10, 25), tell(1, 0), tell(1, 0), count()), [0, 0])
        self.assertEqual(last(START, tell(0, 0), tell(0, 0), know(0, 58), count()), [0, 0])

    def test_one_entry_has_as_many_as_years(self):
        self.assertEqual(last(START, tell(1, 2), count()), [1, 4])
        self.assertEqual(last(START, tell(1, 2), know(0, 28), count()), [1, 1])

    def test_several(self):
        self.assertEqual(last(START, tell(0, 1), tell(2, 0), count()), [1, 10])
        self.assertEqual(last(START, tell(2, 0), tell(0, 1), count()), [1, 10])
        self.assertEqual(last(START, tell(1, 0), tell(1, 0), count()), [1, 6])
        self.assertEqual(last(START, tell(1, 0), tell(1, 0), tell(1, 0), tell(1, 0), count()), [1, 1])

    def test_known_it_is_no_more_and_forgotten_no_fewer(self):
        told = (START, tell(0, 0), tell(1, 0), tell(0, 0))
        self.assertEqual(run(*told, count(), know(1, 26), count(), forget(1), count())[4:],
                         [[1, 20], [0], [1, 6], [26], [1, 20]])

    def test_looked_at_farther(self):
        self.assertEqual(run(start(4, 3, 10, 25), tell(1, 0), tell(1, 0), count(), up_to(26), count(),
                             up_to(38), count(), up_to(25), count())[3::2],
                         [[0, 0], [1, 1], [1, 3], [0, 0]])

    def test_above_1000000007(self):
        ways = math.comb(1001, 10)
        self.assertGreater(ways, 1000000007)
        self.assertEqual(last(SHORTEST, *[tell(0, 0)] * 10, count()), [1, ways % 1000000007])

    def test_below_1000000007_and_the_first_above(self):
        self.assertEqual(last(SHORTEST, *[tell(0, 0)] * 3, count()), [1, math.comb(1001, 3)])
        # Of four in m years each the ways go past 1,000,000,007 from m = 395 to m = 396.
        self.assertLess(math.comb(395, 4), 1000000007)
        self.assertEqual(last(start(1, 2, 0, 788), *[tell(0, 0)] * 4, count()), [1, math.comb(395, 4)])
        self.assertEqual(last(start(1, 2, 0, 790), *[tell(0, 0)] * 4, count()), [1, math.comb(396, 4) - 1000000007])


class One(unittest.TestCase):
    def test_no_entries(self):
        self.assertEqual(last(START, one()), [1])
        self.assertEqual(last(START, tell(0, 0), drop(), one()), [1])

    def test_no_reading(self):
        self.assertEqual(last(*NONE, one()), [-33])
        self.assertEqual(last(start(4, 3, 10, 13), tell(1, 0), one()), [-33])
        self.assertEqual(last(START, tell(0, 0), know(0, 58), up_to(57), one()), [-33])

    def test_just_one(self):
        self.assertEqual(last(start(4, 3, 10, 21), tell(1, 0), one()), [1])
        self.assertEqual(last(start(4, 3, 10, 22), tell(1, 0), tell(0, 0), one()), [1])
        self.assertEqual(last(START, tell(0, 0), tell(0, 0), know(0, 22), know(1, 46), one()), [1])
        self.assertEqual(last(start(1, 2, 0, 9), *[tell(i % 2, 0) for i in range(10)], one()), [1])

    def test_several(self):
        self.assertEqual(last(START, tell(1, 0), one()), [0])
        self.assertEqual(last(START, tell(0, 0), tell(1, 0), know(0, 46), know(1, 50), tell(0, 0), one()), [1])
        self.assertEqual(last(START, tell(0, 0), tell(1, 0), know(0, 22), know(1, 26), tell(0, 0), one()), [0])
        self.assertEqual(last(START, tell(0, 0), tell(1, 0), know(1, 26), one()), [0])

    def test_1000000008_are_not_one(self):
        # One entry in 109 years, two in 168, one in 654, with a known one between.
        self.assertEqual(109 * math.comb(168, 2) * 654, 1000000008)
        told = (start(1, 2, 0, 1864), *[tell(0, 0)] * 6, know(1, 218), know(4, 556))
        self.assertEqual(run(*told, count(), one(), sure())[9:], [[1, 1], [0], [2, 18]])

    def test_one_and_two(self):
        self.assertEqual(run(start(4, 3, 10, 25), tell(1, 0), one(), up_to(26), one(), up_to(13), one())[2::2],
                         [[1], [0], [-33]])


class When(unittest.TestCase):
    def test_there_is_none(self):
        self.assertEqual(run(START, when(0), tell(0, 0), when(1), when(LARGEST)), [[0], [-2], [0], [-2], [-2]])

    def test_none_of_that_number_before_no_reading(self):
        self.assertEqual(run(*NONE, when(0), when(2), when(3), when(LARGEST))[6:], [[-33], [-33], [-2], [-2]])

    def test_the_soonest_then_the_latest(self):
        self.assertEqual(run(START, tell(0, 1), tell(2, 0), when(0), when(1))[3:], [[11, 47], [18, 54]])
        self.assertEqual(run(START, tell(2, 0), tell(0, 1), when(0), when(1))[3:], [[18, 54], [23, 59]])

    def test_not_all_its_years_but_those_in_a_reading(self):
        self.assertEqual(run(START, tell(1, 0), tell(1, 0), tell(1, 0), years(1), when(0), when(1), when(2))[4:],
                         [[4, 14, 50], [14, 26], [26, 38], [38, 50]])

    def test_both_the_same(self):
        self.assertEqual(last(start(4, 3, 10, 25), tell(1, 0), when(0)), [14, 14])
        self.assertEqual(last(start(1, 2, 0, 1), tell(0, 0), when(0)), [0, 0])

    def test_known(self):
        self.assertEqual(run(START, tell(0, 0), tell(1, 0), tell(0, 0), know(1, 26), when(0), when(1), when(2))[5:],
                         [[10, 22], [26, 26], [34, 58]])

    def test_the_last_of_ten(self):
        self.assertEqual(run(SHORTEST, *[tell(0, 0)] * 10, when(0), when(9))[11:], [[0, 1982], [18, 2000]])


class Sure(unittest.TestCase):
    def test_no_entries(self):
        self.assertEqual(last(START, sure()), [0, 0])
        self.assertEqual(last(START, tell(0, 0), drop(), sure()), [0, 0])

    def test_no_reading(self):
        self.assertEqual(last(*NONE, sure()), [-33])
        self.assertEqual(last(start(4, 3, 10, 13), tell(1, 0), sure()), [-33])

    def test_none_sure(self):
        self.assertEqual(last(START, tell(1, 0), tell(1, 0), tell(0, 3), sure()), [0, 0])

    def test_some_sure(self):
        told = (START,) + (tell(0, 0), tell(1, 0), tell(2, 0))
        for known, answer in (((0,), [1, 1]), ((1,), [1, 2]), ((2,), [1, 4]), ((0, 1), [2, 3]), ((1, 2), [2, 6]),
                              ((0, 2), [3, 7]), ((0, 1, 2), [3, 7])):
            with self.subTest(known=known):
                self.assertEqual(last(*told, *[know(i, 22 + 4 * i) for i in known], sure()), answer)

    def test_the_outer_ones_alone(self):
        self.assertEqual(last(START, tell(0, 0), tell(1, 0), tell(2, 0), know(0, 10), know(2, 54), sure()), [2, 5])

    def test_not_known_but_of_one_year_in_all_readings(self):
        self.assertEqual(run(START, tell(0, 0), tell(1, 0), tell(0, 0), know(0, 22), know(2, 34), years(1), sure())[6:],
                         [[4, 14, 50], [3, 7]])
        self.assertEqual(last(start(4, 3, 10, 22), tell(1, 0), tell(0, 0), sure()), [2, 3])

    def test_all_ten(self):
        told = [tell(i % 2, 0) for i in range(10)]
        self.assertEqual(last(start(1, 2, 0, 9), *told, sure()), [10, 1023])
        self.assertEqual(last(start(1, 2, 0, 10), *told, sure()), [10, 1023])
        self.assertEqual(last(start(1, 2, 0, 11), *told, sure()), [0, 0])

    def test_the_tenth_alone(self):
        self.assertEqual(last(SHORTEST, *[tell(0, 0)] * 10, know(9, 2000), sure()), [1, 512])
        self.assertEqual(last(SHORTEST, *[tell(0, 0)] * 10, know(9, 18), sure()), [10, 1023])


class Rounds(unittest.TestCase):
    def test_there_is_none(self):
        self.assertEqual(run(START, rounds(0), tell(0, 0), rounds(1), rounds(LARGEST)), [[0], [-2], [0], [-2], [-2]])

    def test_none_of_that_number_before_no_reading(self):
        self.assertEqual(run(*NONE, rounds(0), rounds(2), rounds(3), rounds(LARGEST))[6:],
                         [[-33], [-33], [-2], [-2]])

    def test_none_one_several(self):
        for last_year, answer in ((13, -33), (14, 0), (25, 0), (26, 1), (37, 1), (38, 2), (2000, 165)):
            with self.subTest(last_year=last_year):
                self.assertEqual(last(start(4, 3, 10, last_year), tell(1, 0), rounds(0)), [answer])

    def test_a_round_is_all_the_reigns(self):
        self.assertEqual(last(start(40, 16, 500, 1779), tell(0, 0), rounds(0)), [1])
        self.assertEqual(last(start(40, 16, 500, 1780), tell(0, 0), rounds(0)), [2])
        self.assertEqual(last(start(1, 16, 0, 33), tell(1, 0), rounds(0)), [2])
        self.assertEqual(last(start(5, 2, 0, 33), tell(1, 4), rounds(0)), [2])

    def test_as_many_as_there_can_be(self):
        self.assertEqual(last(SHORTEST, tell(0, 0), rounds(0)), [1000])

    def test_only_those_in_a_reading(self):
        self.assertEqual(run(START, *[tell(1, 0)] * 3, rounds(0), rounds(1), rounds(2))[4:], [[1], [1], [1]])
        self.assertEqual(run(START, tell(0, 0), tell(1, 0), know(0, 34), rounds(0), rounds(1))[4:], [[0], [1]])


class Apart(unittest.TestCase):
    def test_there_is_none(self):
        told = (START, tell(0, 0), tell(1, 0), tell(2, 0))
        for numbers in ((3, 4), (0, 3), (2, 3), (3, 0), (3, 3), (0, LARGEST), (LARGEST, 0), (LARGEST, LARGEST)):
            with self.subTest(numbers=numbers):
                self.assertEqual(last(*told, apart(*numbers)), [-2])
                self.assertEqual(last(*NONE, apart(*numbers)), [-2])

    def test_not_above(self):
        told = (START, tell(0, 0), tell(1, 0), tell(2, 0))
        for numbers in ((0, 0), (1, 1), (2, 2), (1, 0), (2, 0), (2, 1)):
            with self.subTest(numbers=numbers):
                self.assertEqual(last(*told, apart(*numbers)), [-2])
                self.assertEqual(last(*NONE, apart(*numbers)), [-2])

    def test_without_entries(self):
        self.assertEqual(run(START, apart(0, 0), apart(0, 1), apart(1, 0)), [[0], [-2], [-2], [-2]])

    def test_no_reading(self):
        self.assertEqual(run(*NONE, apart(0, 1), apart(0, 2), apart(1, 2))[6:], [[-33]] * 3)

    def test_below_0(self):
        self.assertEqual(last(START, tell(0, 1), tell(2, 0), apart(0, 1)), [0, 54 - 11])

    def test_just_0(self):
        self.assertEqual(run(START, tell(1, 0), tell(1, 0), tell(1, 0), when(0), when(1), apart(0, 1), apart(0, 2))[4:],
                         [[14, 26], [26, 38], [0, 24], [12, 36]])

    def test_above_0(self):
        self.assertEqual(run(start(4, 3, 10, 37), tell(1, 0), tell(1, 0), when(0), when(1), apart(0, 1))[3:],
                         [[14, 14], [26, 26], [12, 12]])
        self.assertEqual(run(START, tell(0, 0), tell(1, 0), know(0, 22), know(1, 50), apart(0, 1))[5:], [[28, 28]])
        self.assertEqual(run(START, tell(0, 0), tell(1, 0), tell(0, 0), know(1, 26), apart(0, 1), apart(0, 2),
                             apart(1, 2))[5:],
                         [[4, 16], [12, 48], [8, 32]])

    def test_one_above_0(self):
        self.assertEqual(last(start(1, 2, 0, 1), tell(0, 0), tell(1, 0), apart(0, 1)), [1, 1])

    def test_as_far_as_there_can_be(self):
        self.assertEqual(last(SHORTEST, tell(0, 0), tell(0, 0), apart(0, 1)), [0, 2000])
        self.assertEqual(last(SHORTEST, tell(0, 0), tell(0, 0), know(0, 0), know(1, 2000), apart(0, 1)), [2000, 2000])


class Could(unittest.TestCase):
    def test_there_is_none(self):
        self.assertEqual(run(START, could(0, 10), tell(0, 0), could(1, 10), could(LARGEST, 10)),
                         [[0], [-2], [0], [-2], [-2]])

    def test_none_of_that_number_before_the_bound(self):
        self.assertEqual(run(START, could(0, 2001), tell(0, 0), could(1, 2001), could(1, LARGEST),
                             could(LARGEST, LARGEST))[1:],
                         [[-2], [0], [-2], [-2], [-2]])

    def test_the_highest_year_and_what_is_above(self):
        self.assertEqual(run(START, tell(0, 0), could(0, 2000), could(0, 2001), could(0, LARGEST))[2:],
                         [[0], [-22], [-22]])
        self.assertEqual(run(SHORTEST, tell(0, 0), could(0, 2000), could(0, 2001), could(0, 2002))[2:],
                         [[1], [-22], [-22]])

    def test_the_bound_where_there_is_no_reading(self):
        self.assertEqual(run(*NONE, could(0, 2000), could(0, 2001), could(2, LARGEST), could(3, 2001))[6:],
                         [[0], [-22], [-22], [-2]])

    def test_its_years_and_no_others(self):
        may_be = [y for y in range(0, 100) if last(START, tell(1, 0), could(0, y)) == [1]]
        self.assertEqual(may_be, [14, 26, 38, 50])

    def test_one_of_its_years_but_in_no_reading(self):
        told = (START, tell(1, 0), tell(1, 0), tell(1, 0))
        for i, may_be in ((0, [14, 26]), (1, [26, 38]), (2, [38, 50])):
            self.assertEqual([y for y in (14, 26, 38, 50) if last(*told, could(i, y)) == [1]], may_be)

    def test_the_soonest_one_between_and_the_latest(self):
        told = (START, tell(0, 1), tell(2, 0))
        self.assertEqual(run(*told, when(1), *[could(1, y) for y in (18, 30, 42, 54)])[3:], [[18, 54]] + [[1]] * 4)

    def test_between_but_not_one_of_its_years(self):
        told = (START, tell(0, 1), tell(2, 0))
        self.assertEqual(run(*told, *[could(1, y) for y in (17, 19, 29, 31, 53, 55)])[3:], [[0]] * 6)

    def test_before_the_first_year_and_behind_the_last(self):
        self.assertEqual(run(START, tell(0, 0), could(0, 0), could(0, 9), could(0, 70), up_to(70), could(0, 70))[2:],
                         [[0], [0], [0], [60], [1]])

    def test_a_known_one(self):
        self.assertEqual(run(START, tell(1, 0), know(0, 26), could(0, 14), could(0, 26), could(0, 38))[3:],
                         [[0], [1], [0]])
        self.assertEqual(run(START, tell(1, 0), know(0, 26), up_to(25), could(0, 26), could(0, 14))[4:], [[0], [0]])

    def test_beside_a_known_one(self):
        self.assertEqual(run(START, tell(1, 0), tell(1, 0), know(1, 38), could(0, 26), could(0, 38), could(0, 50))[4:],
                         [[1], [0], [0]])

    def test_year_0(self):
        self.assertEqual(run(start(1, 2, 0, 4), tell(0, 0), tell(0, 0), could(0, 0), could(1, 0))[3:], [[1], [0]])

    def test_no_reading_at_all(self):
        self.assertEqual(run(*NONE, could(0, 34), could(1, 34), could(2, 38), could(2, 50))[6:], [[0]] * 4)


if __name__ == "__main__":
    unittest.main()
