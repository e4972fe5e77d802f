import unittest

from support import LARGEST, drop, forget, how_told, know, last, name, run, soonest, start, tell, up_to, years

# Reigns of 4 years and 3 names from year 10 on: a round is 12 years.
START = start(4, 3, 10, 60)
# Every second year has the same name.
SHORTEST = start(1, 2, 0, 2000)


class Name(unittest.TestCase):
    def test_before_and_at_the_first_year(self):
        self.assertEqual(run(START, name(0), name(9), name(10)), [[0], [-33], [-33], [0, 0, 0]])

    def test_years_of_the_reign_then_names_then_rounds(self):
        self.assertEqual(run(START, name(11), name(13), name(14), name(17), name(18), name(21), name(22), name(45)),
                         [[0], [0, 1, 0], [0, 3, 0], [1, 0, 0], [1, 3, 0], [2, 0, 0], [2, 3, 0], [0, 0, 1], [2, 3, 2]])

    def test_behind_the_last_that_is_looked_at(self):
        self.assertEqual(run(START, name(60), name(61), up_to(10), name(61), name(1999)),
                         [[0], [0, 2, 4], [0, 3, 4], [60], [0, 3, 4], [2, 1, 165]])

    def test_the_highest_year_and_what_is_above(self):
        self.assertEqual(run(START, name(2000), name(2001), name(LARGEST)), [[0], [2, 2, 165], [-22], [-22]])

    def test_from_the_highest_first_year(self):
        self.assertEqual(run(start(40, 16, 500, 500), name(499), name(500), name(1139), name(1140), name(2000)),
                         [[0], [-33], [0, 0, 0], [15, 39, 0], [0, 0, 1], [5, 20, 2]])

    def test_from_year_0(self):
        self.assertEqual(run(SHORTEST, name(0), name(1), name(2), name(2000), name(2001)),
                         [[0], [0, 0, 0], [1, 0, 0], [0, 0, 1], [0, 0, 1000], [-22]])

    def test_each_year_has_the_name_that_counting_gives(self):
        t, n, f = 7, 5, 23
        k, j, turns = 0, 0, 0
        counted = []
        for year in range(f, 401):
            counted.append([k, j, turns])
            j += 1
            if j == t:
                j, k = 0, k + 1
            if k == n:
                k, turns = 0, turns + 1
        self.assertEqual(run(start(t, n, f, 100), *[name(year) for year in range(f, 401)])[1:], counted)


class Years(unittest.TestCase):
    def test_there_is_none(self):
        self.assertEqual(run(START, years(0), tell(0, 0), years(1), years(LARGEST)), [[0], [-2], [0], [-2], [-2]])

    def test_no_year_one_several(self):
        told = (tell(1, 2), years(0))
        for last_year, answer in ((15, [0, 0, 0]), (16, [1, 16, 16]), (27, [1, 16, 16]), (28, [2, 16, 28]),
                                  (60, [4, 16, 52]), (2000, [166, 16, 1996])):
            with self.subTest(last_year=last_year):
                self.assertEqual(last(start(4, 3, 10, last_year), *told), answer)

    def test_as_many_as_there_can_be(self):
        self.assertEqual(run(SHORTEST, tell(0, 0), tell(1, 0), years(0), years(1))[3:],
                         [[1001, 0, 2000], [1000, 1, 1999]])

    def test_year_0_alone_is_not_none(self):
        self.assertEqual(last(start(1, 2, 0, 0), tell(0, 0), years(0)), [1, 0, 0])

    def test_the_order_does_not_matter(self):
        self.assertEqual(run(START, tell(2, 3), tell(0, 0), years(0), years(1))[3:], [[4, 21, 57], [5, 10, 58]])

    def test_known(self):
        self.assertEqual(last(START, tell(1, 2), know(0, 28), years(0)), [1, 28, 28])

    def test_known_at_the_last_year_and_behind_it(self):
        self.assertEqual(run(START, tell(1, 2), know(0, 28), up_to(28), years(0), up_to(27), years(0))[3:],
                         [[60], [1, 28, 28], [28], [0, 0, 0]])


class Told(unittest.TestCase):
    def test_there_is_none(self):
        self.assertEqual(run(START, how_told(0), tell(0, 0), how_told(0), how_told(1), how_told(LARGEST), drop(),
                             how_told(0)),
                         [[0], [-2], [0], [0, 0, 0], [-2], [-2], [0], [-2]])

    def test_the_name_then_the_year_of_the_reign_then_one_more_than_the_known_year(self):
        self.assertEqual(run(START, tell(1, 3), how_told(0), know(0, 29), how_told(0), forget(0), how_told(0))[2:],
                         [[1, 3, 0], [0], [1, 3, 30], [29], [1, 3, 0]])

    def test_each_entry_by_its_number(self):
        self.assertEqual(run(START, tell(2, 1), tell(0, 3), tell(1, 0), know(1, 25), how_told(0), how_told(1),
                             how_told(2))[5:],
                         [[2, 1, 0], [0, 3, 26], [1, 0, 0]])

    def test_known_to_have_been_year_0(self):
        self.assertEqual(run(start(1, 2, 0, 9), tell(0, 0), how_told(0), know(0, 0), how_told(0))[2:],
                         [[0, 0, 0], [0], [0, 0, 1]])

    def test_known_to_have_been_the_highest_year(self):
        self.assertEqual(last(SHORTEST, tell(0, 0), know(0, 2000), how_told(0)), [0, 0, 2001])

    def test_known_but_not_looked_at_any_more(self):
        self.assertEqual(run(START, tell(1, 1), know(0, 51), up_to(50), years(0), how_told(0), up_to(51),
                             how_told(0))[4:],
                         [[0, 0, 0], [1, 1, 52], [50], [1, 1, 52]])

    def test_also_where_there_is_no_reading(self):
        self.assertEqual(run(start(4, 3, 10, 10), tell(2, 3), soonest(), how_told(0))[2:], [[-33], [2, 3, 0]])

    def test_the_last_name_and_year_of_a_reign_that_there_can_be(self):
        self.assertEqual(last(start(40, 16, 500, 2000), tell(15, 39), know(0, 1139), how_told(0)), [15, 39, 1140])


if __name__ == "__main__":
    unittest.main()
