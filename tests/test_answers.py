import unittest

from reignyears.annals import answers
from support import (LARGEST, again, apart, back, could, count, drop, forget, how_told, know, latest, name, one,
                     one_list, padded, rounds, soonest, split, start, state, sure, tell, up_to, when, years)

SEVERAL = one_list([
    start(4, 1, 10, 60), start(4, 3, 10, 60), name(45), tell(0, 1), tell(3, 0), tell(2, 0), years(1), soonest(),
    latest(), count(), know(0, 35), sure(), when(1), apart(0, 1), one(), rounds(1), could(1, 54), could(1, 30),
    how_told(0), up_to(50), state(), forget(1), forget(0), drop(), back(), back(), again(), state(), when(2),
    apart(1, 0),
])
ANSWERED = [
    1, -22,
    1, 0,
    3, 2, 3, 2,
    1, 0,
    1, -22,
    1, 1,
    3, 4, 18, 54,
    11, 2, 11, 18, 0, 0, 0, 0, 0, 0, 0, 0,
    11, 2, 47, 54, 0, 0, 0, 0, 0, 0, 0, 0,
    2, 1, 10,
    1, 0,
    2, 1, 1,
    2, 42, 54,
    2, 7, 19,
    1, 0,
    1, 1,
    1, 1,
    1, 0,
    3, 0, 1, 36,
    1, 60,
    7, 2, 4, 3, 10, 50, 4, 0,
    1, -6,
    1, 35,
    1, 1,
    1, 5,
    1, 4,
    1, 1,
    7, 2, 4, 3, 10, 50, 5, 1,
    1, -2,
    1, -2,
]

# Each of the 21 calls once, of entries that are there.
EACH_ONCE = [
    start(3, 4, 5, 1900), tell(1, 2), tell(2, 0), tell(1, 2), drop(), know(0, 22), forget(0), up_to(2000), name(1234),
    years(0), soonest(), latest(), count(), sure(), when(1), apart(0, 1), one(), rounds(1), could(1, 1991),
    how_told(1), back(), again(), state(),
]
EACH_ANSWERED = [
    [0], [0], [1], [2], [2], [0], [22], [1900], [1, 2, 102], [166, 10, 1990], padded(10, 11), padded(1990, 1991),
    [1, 166 * 167 // 2], [0, 0], [11, 1991], [0, 1981], [0], [165], [1], [2, 0, 0], [6], [0], [2, 3, 4, 5, 2000, 7, 0],
]
# A thousand calls, the most that there may be, with all of them among them.
THOUSAND = one_list(EACH_ONCE * 43 + [state()] * 11)


class Answers(unittest.TestCase):
    def test_the_whole_list(self):
        self.assertEqual(answers(SEVERAL), ANSWERED)

    def test_one_call(self):
        self.assertEqual(answers(start(1, 2, 0, 0)), [1, 0])
        self.assertEqual(answers(start(1, 1, 0, 0)), [1, -22])

    def test_what_is_handed_in_is_not_changed(self):
        calls = list(SEVERAL)
        answers(calls)
        self.assertEqual(calls, SEVERAL)

    def test_twice_the_same(self):
        calls = list(SEVERAL)
        first = answers(calls)
        second = answers(calls)
        self.assertEqual(first, second)
        self.assertIsNot(first, second)

    def test_each_time_as_if_for_the_first_time(self):
        plain = start(4, 3, 10, 60) + soonest() + count()
        before = answers(plain)
        answers(SEVERAL)
        self.assertEqual(answers(plain), before)

    def test_changing_an_answer_changes_no_later_one(self):
        answers(SEVERAL).clear()
        self.assertEqual(answers(SEVERAL), ANSWERED)

    def test_whole_numbers_alone_in_a_list(self):
        answered = answers(SEVERAL)
        self.assertIs(type(answered), list)
        self.assertEqual({type(number) for number in answered}, {int})

    def test_each_call_stands_there(self):
        self.assertEqual(sorted({call[0] for call in EACH_ONCE}), list(range(21)))
        self.assertEqual(len(EACH_ONCE) * 43 + 11, 1000)

    def test_a_thousand_calls(self):
        told = start(1, 2, 0, 2000) + tell(0, 0) * 10
        answered = answers(told + count() * 989)
        self.assertEqual(answered[:22], [1, 0] + one_list([[1, i] for i in range(10)]))
        self.assertEqual(len(answered), 22 + 989 * 3)
        self.assertEqual(answered[22:25] * 989, answered[22:])

    def test_a_thousand_calls_of_each_kind(self):
        parts = split(answers(THOUSAND))
        self.assertEqual(parts, EACH_ANSWERED * 43 + [[2, 3, 4, 5, 2000, 7, 0]] * 11)

    def test_a_thousand_calls_stay_as_they_were_and_answer_the_same_again(self):
        calls = list(THOUSAND)
        first = answers(calls)
        self.assertEqual(calls, THOUSAND)
        self.assertEqual(answers(calls), first)

    def test_the_longest_list_of_a_thousand_calls(self):
        # No call has more numbers than ny_start: five.
        calls = start(4, 3, 10, 60) + start(LARGEST, LARGEST, LARGEST, LARGEST) * 999
        self.assertEqual(len(calls), 5000)
        self.assertEqual(answers(calls), [1, 0] + [1, -22] * 999)
        self.assertEqual(answers(start(4, 3, 10, 60) * 1000), [1, 0] * 1000)


if __name__ == "__main__":
    unittest.main()
