import unittest

from support import LARGEST, count, forget, know, last, name, run, soonest, start, tell, up_to, years


class Start(unittest.TestCase):
    def test_each_bound_and_what_is_past_it(self):
        for numbers, answer in (
            ((0, 3, 0, 9), -22), ((1, 3, 0, 9), 0), ((40, 3, 0, 9), 0), ((41, 3, 0, 9), -22),
            ((4, 0, 0, 9), -22), ((4, 1, 0, 9), -22), ((4, 2, 0, 9), 0), ((4, 16, 0, 9), 0), ((4, 17, 0, 9), -22),
            ((4, 3, 0, 0), 0), ((4, 3, 500, 900), 0), ((4, 3, 501, 900), -22),
            ((4, 3, 7, 6), -22), ((4, 3, 7, 7), 0), ((4, 3, 500, 499), -22), ((4, 3, 500, 500), 0),
            ((4, 3, 7, 2000), 0), ((4, 3, 7, 2001), -22),
            ((1, 2, 0, 0), 0), ((40, 16, 500, 2000), 0),
        ):
            with self.subTest(numbers=numbers):
                self.assertEqual(run(start(*numbers)), [[answer]])

    def test_the_largest_numbers(self):
        for numbers in (
            (LARGEST, 3, 0, 9), (4, LARGEST, 0, 9), (4, 3, LARGEST, 9), (4, 3, 0, LARGEST),
            (4, 3, LARGEST, LARGEST), (LARGEST, LARGEST, LARGEST, LARGEST),
        ):
            with self.subTest(numbers=numbers):
                self.assertEqual(run(start(*numbers)), [[-22]])

    def test_refused_before_the_first_that_is_not(self):
        self.assertEqual(
            run(start(0, 3, 0, 9), start(4, 3, 501, 9), start(2, 3, 5, 50), name(8), tell(1, 0), years(0)),
            [[-22], [-22], [0], [1, 1, 0], [0], [8, 7, 49]])

    def test_refused_later_leaves_all_as_it_was(self):
        told = (start(2, 3, 5, 50), tell(1, 0), tell(2, 1), know(1, 16))
        asked = (name(8), years(0), years(1), soonest(), count(), up_to(60), forget(1), tell(0, 0))
        refused = (start(41, 4, 6, 70), start(3, 17, 6, 70), start(3, 4, 501, 600), start(3, 4, 6, 5),
                   start(3, 4, 6, 2001), start(LARGEST, LARGEST, LARGEST, LARGEST))
        plain = run(*told, *asked)
        with_refusals = run(*told, *refused, *asked)
        self.assertEqual(with_refusals[4:10], [[-22]] * 6)
        self.assertEqual(with_refusals[:4] + with_refusals[10:], plain)

    def test_a_second_one_begins_anew(self):
        answered = run(start(2, 3, 5, 50), tell(1, 0), know(0, 13), up_to(20),
                       start(3, 4, 1, 30), years(0), soonest(), count(), name(7), up_to(30), tell(3, 2), years(0))
        self.assertEqual(answered[4:], [[0], [-2], [0] + [0] * 10, [1, 1], [2, 0, 0], [-17], [0], [2, 12, 24]])

    def test_the_same_one_again_begins_anew_too(self):
        self.assertEqual(last(start(2, 3, 5, 50), tell(1, 0), start(2, 3, 5, 50), tell(2, 1)), [0])


if __name__ == "__main__":
    unittest.main()
