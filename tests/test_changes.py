import unittest

from support import (LARGEST, count, drop, forget, know, last, latest, padded, run, soonest, start,
                     tell, up_to, years)

# Reigns of 4 years and 3 names from year 10 on: a round is 12 years.
START = start(4, 3, 10, 60)
TEN = (tell(0, 0),) * 10


class Tell(unittest.TestCase):
    def test_answers_the_number_of_the_entry(self):
        self.assertEqual(run(START, tell(0, 0), tell(2, 3), tell(0, 0)), [[0], [0], [1], [2]])

    def test_the_last_name_and_the_first_that_is_not_there(self):
        self.assertEqual(run(START, tell(2, 0), tell(3, 0), tell(LARGEST, 0), tell(0, 0)),
                         [[0], [0], [-22], [-22], [1]])

    def test_the_last_year_of_a_reign_and_the_first_that_is_not_there(self):
        self.assertEqual(run(START, tell(0, 3), tell(0, 4), tell(0, LARGEST), tell(0, 0)),
                         [[0], [0], [-22], [-22], [1]])

    def test_the_tenth_and_the_eleventh(self):
        self.assertEqual(run(START, *TEN, tell(0, 0), drop(), tell(1, 0)),
                         [[0]] + [[i] for i in range(10)] + [[-28], [9], [9]])

    def test_bounds_are_looked_at_before_the_ten(self):
        self.assertEqual(run(START, *TEN, tell(3, 0), tell(0, 4), tell(LARGEST, LARGEST), tell(2, 3))[11:],
                         [[-22], [-22], [-22], [-28]])

    def test_an_entry_without_any_year_may_be_told(self):
        self.assertEqual(run(start(4, 3, 10, 10), tell(2, 3), years(0)), [[0], [0], [0, 0, 0]])

    def test_a_new_entry_is_behind_the_others_and_not_known(self):
        self.assertEqual(run(START, tell(0, 1), know(0, 11), tell(0, 1), years(1), forget(1), soonest())[3:],
                         [[1], [5, 11, 59], [-6], padded(11, 23)])


class Drop(unittest.TestCase):
    def test_answers_how_many_there_are(self):
        self.assertEqual(run(START, tell(0, 0), tell(1, 0), tell(2, 0), drop(), drop(), drop(), drop()),
                         [[0], [0], [1], [2], [2], [1], [0], [-6]])

    def test_none_at_the_beginning(self):
        self.assertEqual(last(START, drop()), [-6])

    def test_the_last_one_goes(self):
        self.assertEqual(run(START, tell(0, 0), tell(1, 0), drop(), years(0), years(1))[3:],
                         [[1], [5, 10, 58], [-2]])

    def test_what_was_known_goes_with_it(self):
        self.assertEqual(run(START, tell(0, 0), know(0, 22), drop(), tell(0, 0), years(0), forget(0))[3:],
                         [[0], [0], [5, 10, 58], [-6]])


class Know(unittest.TestCase):
    def test_its_first_a_middle_and_its_last_year(self):
        for year in (15, 27, 51):
            with self.subTest(year=year):
                self.assertEqual(run(START, tell(1, 1), know(0, year), years(0)), [[0], [0], [0], [1, year, year]])

    def test_there_is_none(self):
        self.assertEqual(run(START, know(0, 10), tell(0, 0), know(1, 10), know(LARGEST, 10)),
                         [[0], [-2], [0], [-2], [-2]])

    def test_known_already_whichever_year(self):
        self.assertEqual(run(START, tell(1, 1), know(0, 27), know(0, 27), know(0, 39), know(0, 28), know(0, LARGEST)),
                         [[0], [0], [0], [-17], [-17], [-17], [-17]])

    def test_not_one_of_its_years(self):
        for year in (0, 3, 14, 16, 26, 28, 63, 1999, 2000, 2001, LARGEST):
            with self.subTest(year=year):
                self.assertEqual(run(START, tell(1, 1), know(0, year), years(0))[2:], [[-33], [4, 15, 51]])

    def test_only_what_is_looked_at(self):
        self.assertEqual(run(START, tell(1, 1), up_to(50), know(0, 51), up_to(51), know(0, 51))[3:],
                         [[-33], [50], [0]])

    def test_known_but_not_looked_at_any_more(self):
        self.assertEqual(run(START, tell(1, 1), know(0, 51), up_to(50), know(0, 15), know(0, 51), years(0))[4:],
                         [[-17], [-17], [0, 0, 0]])

    def test_one_entry_alone_comes_to_be_known(self):
        self.assertEqual(run(START, tell(1, 1), tell(1, 1), tell(1, 1), know(1, 27), years(0), years(1), years(2))[4:],
                         [[0], [4, 15, 51], [1, 27, 27], [4, 15, 51]])

    def test_a_year_that_leaves_no_reading_may_be_known(self):
        self.assertEqual(run(START, tell(0, 0), tell(0, 0), know(1, 10), soonest(), count())[3:],
                         [[0], [-33], [0, 0]])

    def test_year_0(self):
        self.assertEqual(run(start(1, 2, 0, 9), tell(0, 0), know(0, 0), know(0, 2), years(0), forget(0), forget(0))[2:],
                         [[0], [-17], [1, 0, 0], [0], [-6]])


class Forget(unittest.TestCase):
    def test_answers_which_year_it_was(self):
        self.assertEqual(run(START, tell(1, 1), know(0, 27), forget(0), years(0), know(0, 39), forget(0))[3:],
                         [[27], [4, 15, 51], [0], [39]])

    def test_there_is_none(self):
        self.assertEqual(run(START, forget(0), tell(1, 1), know(0, 27), forget(1), forget(LARGEST), years(0)),
                         [[0], [-2], [0], [0], [-2], [-2], [1, 27, 27]])

    def test_not_known(self):
        self.assertEqual(run(START, tell(1, 1), forget(0), know(0, 27), forget(0), forget(0)),
                         [[0], [0], [-6], [0], [27], [-6]])

    def test_known_but_not_looked_at_any_more(self):
        self.assertEqual(run(START, tell(1, 1), know(0, 51), up_to(50), forget(0), years(0))[4:],
                         [[51], [3, 15, 39]])

    def test_one_entry_alone_is_forgotten(self):
        self.assertEqual(run(START, tell(1, 1), tell(1, 1), know(0, 15), know(1, 27), forget(0), years(0), years(1))[5:],
                         [[15], [4, 15, 51], [1, 27, 27]])


class UpTo(unittest.TestCase):
    def test_answers_up_to_which_it_was(self):
        self.assertEqual(run(START, up_to(70), up_to(10), up_to(2000), up_to(60)), [[0], [60], [70], [10], [2000]])

    def test_bounds(self):
        self.assertEqual(run(START, up_to(9), up_to(0), up_to(2001), up_to(LARGEST), up_to(10), up_to(2000)),
                         [[0], [-22], [-22], [-22], [-22], [60], [10]])

    def test_it_is_that(self):
        self.assertEqual(run(START, up_to(60), up_to(61), up_to(61), up_to(60)), [[0], [-17], [60], [-17], [61]])

    def test_refused_it_is_looked_at_as_before(self):
        self.assertEqual(run(START, tell(1, 1), up_to(9), up_to(2001), up_to(60), years(0))[2:],
                         [[-22], [-22], [-17], [4, 15, 51]])

    def test_years_come_and_go(self):
        self.assertEqual(run(START, tell(1, 1), up_to(62), years(0), up_to(63), years(0), up_to(15), years(0), up_to(14),
                             years(0))[3::2],
                         [[4, 15, 51], [5, 15, 63], [1, 15, 15], [0, 0, 0]])

    def test_what_is_known_is_there_again_when_looked_at_farther(self):
        self.assertEqual(run(START, tell(1, 1), know(0, 51), up_to(50), soonest(), latest(), count(),
                             up_to(51), soonest(), latest(), count())[3:],
                         [[60], [-33], [-33], [0, 0], [50], padded(51), padded(51), [1, 1]])


class Refused(unittest.TestCase):
    def test_all_is_as_it_was(self):
        told = (START, tell(1, 1), tell(2, 0), know(1, 30))
        asked = (years(0), years(1), years(2), soonest(), latest(), count(), up_to(60), forget(0), forget(1), tell(0, 0))
        refusals = ((tell(3, 0), -22), (tell(0, 4), -22), (know(2, 10), -2), (know(1, 30), -17), (know(0, 16), -33),
                    (forget(2), -2), (forget(0), -6), (up_to(9), -22), (up_to(60), -17))
        plain = run(*told, *asked)
        for refusal, number in refusals:
            with self.subTest(refusal=refusal):
                answered = run(*told, refusal, *asked)
                self.assertEqual(answered[4], [number])
                self.assertEqual(answered[:4] + answered[5:], plain)


if __name__ == "__main__":
    unittest.main()
