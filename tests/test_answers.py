import unittest

from reignyears.annals import answers
from support import count, drop, forget, know, latest, name, one_list, soonest, start, tell, up_to, years

SEVERAL = one_list([
    start(4, 1, 10, 60), start(4, 3, 10, 60), name(45), tell(0, 1), tell(3, 0), tell(2, 0), years(1), soonest(),
    latest(), count(), know(0, 35), up_to(50), forget(1), forget(0), drop(),
])
ANSWERED = [
    1, -22,
    1, 0,
    3, 2, 3, 2,
    1, 0,
    1, -22,
    1, 1,
    3, 4, 18, 54,
    11, 2, 11, 18, 0, 0, 0, 0, 0, 0, 0, 0,
    11, 2, 47, 54, 0, 0, 0, 0, 0, 0, 0, 0,
    2, 1, 10,
    1, 0,
    1, 60,
    1, -6,
    1, 35,
    1, 1,
]


class Answers(unittest.TestCase):
    def test_the_whole_list(self):
        self.assertEqual(answers(SEVERAL), ANSWERED)

    def test_one_call(self):
        self.assertEqual(answers(start(1, 2, 0, 0)), [1, 0])
        self.assertEqual(answers(start(1, 1, 0, 0)), [1, -22])

    def test_what_is_handed_in_is_not_changed(self):
        calls = list(SEVERAL)
        answers(calls)
        self.assertEqual(calls, SEVERAL)

    def test_twice_the_same(self):
        calls = list(SEVERAL)
        first = answers(calls)
        second = answers(calls)
        self.assertEqual(first, second)
        self.assertIsNot(first, second)

    def test_each_time_as_if_for_the_first_time(self):
        plain = start(4, 3, 10, 60) + soonest() + count()
        before = answers(plain)
        answers(SEVERAL)
        self.assertEqual(answers(plain), before)

    def test_changing_an_answer_changes_no_later_one(self):
        answers(SEVERAL).clear()
        self.assertEqual(answers(SEVERAL), ANSWERED)

    def test_whole_numbers_alone_in_a_list(self):
        answered = answers(SEVERAL)
        self.assertIs(type(answered), list)
        self.assertEqual({type(number) for number in answered}, {int})

    def test_a_thousand_calls(self):
        told = start(1, 2, 0, 2000) + tell(0, 0) * 10
        answered = answers(told + count() * 989)
        self.assertEqual(answered[:22], [1, 0] + one_list([[1, i] for i in range(10)]))
        self.assertEqual(len(answered), 22 + 989 * 3)
        self.assertEqual(answered[22:25] * 989, answered[22:])


if __name__ == "__main__":
    unittest.main()
