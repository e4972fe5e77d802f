import unittest

from support import (LARGEST, again, asked, back, count, drop, forget, how_told, know, last, latest, name, one, padded,
                     run, soonest, start, state, sure, tell, up_to, years)

# Reigns of 4 years and 3 names from year 10 on: a round is 12 years.
START = start(4, 3, 10, 60)
# Two entries, the second of them known.
TOLD = (START, tell(1, 1), tell(2, 0), know(1, 30))
# Each of the five changes, as it may come behind TOLD.
FIVE = (tell(0, 3), drop(), know(0, 27), forget(1), up_to(50))
REFUSED = (start(0, 3, 10, 60), start(4, 3, 10, 2001), tell(3, 0), tell(0, 4), know(2, 10), know(1, 30), know(0, 16),
           forget(2), forget(0), up_to(9), up_to(60))


def without_changes(answered):
    """What the questions answer, less how many changes can be taken back and done again."""
    return [answered[0][:5]] + answered[1:]


class Changed(unittest.TestCase):
    def what_is_asked(self, *calls):
        answered = run(*calls, *asked(3))
        return without_changes(answered[len(calls):])


class Back(Changed):
    def test_none_right_behind_a_start(self):
        self.assertEqual(run(START, back(), back()), [[0], [-2], [-2]])

    def test_answers_how_many_can_still_be(self):
        self.assertEqual(run(*TOLD, back(), back(), back(), back(), back())[4:], [[2], [1], [0], [-2], [-2]])

    def test_each_of_the_five(self):
        before = self.what_is_asked(*TOLD)
        for change in FIVE:
            with self.subTest(change=change):
                self.assertNotEqual(self.what_is_asked(*TOLD, change), before)
                self.assertEqual(run(*TOLD, change, back())[-1], [3])
                self.assertEqual(self.what_is_asked(*TOLD, change, back()), before)

    def test_one_behind_another(self):
        reached = [self.what_is_asked(*TOLD, *FIVE[:number]) for number in range(3)]
        self.assertEqual(self.what_is_asked(*TOLD, *FIVE[:2], back()), reached[1])
        self.assertEqual(self.what_is_asked(*TOLD, *FIVE[:2], back(), back()), reached[0])

    def test_what_was_dropped_is_there_again_as_it_was(self):
        self.assertEqual(run(*TOLD, drop(), how_told(1), back(), how_told(1), drop())[4:],
                         [[1], [-2], [3], [2, 0, 31], [1]])

    def test_what_is_known_again_may_not_be_looked_at(self):
        self.assertEqual(run(START, tell(1, 1), know(0, 51), up_to(50), forget(0), back(), how_told(0), years(0),
                             back(), years(0))[5:],
                         [[3], [1, 1, 52], [0, 0, 0], [2], [1, 51, 51]])

    def test_a_refused_one_leaves_all_as_it_was(self):
        before = self.what_is_asked(START)
        self.assertEqual(self.what_is_asked(START, back()), before)
        self.assertEqual(self.what_is_asked(START, again()), before)

    def test_a_refused_change_and_a_question_are_no_change(self):
        for call in REFUSED + tuple(asked(2)):
            with self.subTest(call=call):
                self.assertEqual(run(*TOLD, call, back())[-1], [2])
        self.assertEqual(run(START, drop(), back()), [[0], [-6], [-2]])
        self.assertEqual(run(START, *[tell(0, 0)] * 10, tell(0, 0), back())[11:], [[-28], [9]])

    def test_it_is_no_change_itself(self):
        self.assertEqual(run(*TOLD, back(), state(), back(), state(), again(), state())[4:],
                         [[2], [2, 4, 3, 10, 60, 2, 1], [1], [1, 4, 3, 10, 60, 1, 2], [1], [2, 4, 3, 10, 60, 2, 1]])


class Again(Changed):
    def test_none_to_do_again(self):
        self.assertEqual(run(START, again(), tell(0, 0), again(), back(), again(), again()),
                         [[0], [-2], [0], [-2], [0], [0], [-2]])

    def test_answers_how_many_can_still_be(self):
        self.assertEqual(run(*TOLD, back(), back(), back(), again(), again(), again(), again())[7:],
                         [[2], [1], [0], [-2]])

    def test_each_of_the_five(self):
        for change in FIVE:
            with self.subTest(change=change):
                behind = self.what_is_asked(*TOLD, change)
                self.assertEqual(last(*TOLD, change, back(), again()), [0])
                self.assertEqual(self.what_is_asked(*TOLD, change, back(), again()), behind)
                self.assertEqual(self.what_is_asked(*TOLD, change, back(), again(), back()), self.what_is_asked(*TOLD))

    def test_the_last_one_taken_back_first(self):
        calls = (*TOLD, up_to(50), forget(1), drop())
        self.assertEqual(run(*calls, back(), back(), back(), again(), state(), again(), state(), again(), state())[10:],
                         [[2], [2, 4, 3, 10, 50, 4, 2], [1], [2, 4, 3, 10, 50, 5, 1], [0], [1, 4, 3, 10, 50, 6, 0]])

    def test_a_refused_change_leaves_what_can_be_done_again(self):
        for call in REFUSED:
            with self.subTest(call=call):
                answered = run(*TOLD, tell(0, 3), up_to(61), back(), back(), call, again(), state(), again(), state())
                self.assertLess(answered[8][0], 0)
                self.assertEqual(answered[9:], [[1], [3, 4, 3, 10, 60, 4, 1], [0], [3, 4, 3, 10, 61, 5, 0]])

    def test_a_question_leaves_what_can_be_done_again(self):
        for call in asked(2):
            with self.subTest(call=call):
                self.assertEqual(run(*TOLD, back(), back(), call, again(), again(), again())[7:], [[1], [0], [-2]])

    def test_a_refused_drop_and_a_refused_eleventh_leave_it_too(self):
        self.assertEqual(run(START, tell(0, 0), back(), drop(), again(), state())[3:],
                         [[-6], [0], [1, 4, 3, 10, 60, 1, 0]])
        self.assertEqual(run(START, *[tell(0, 0)] * 10, up_to(50), back(), tell(0, 0), again())[13:], [[-28], [0]])

    def test_another_change_ends_it(self):
        for change in FIVE:
            with self.subTest(change=change):
                self.assertEqual(run(*TOLD, up_to(70), up_to(71), back(), back(), change, again(), state())[9],
                                 [-2])
                self.assertEqual(last(*TOLD, up_to(70), up_to(71), back(), back(), change, state())[5:], [4, 0])

    def test_also_the_same_change(self):
        self.assertEqual(run(START, tell(0, 0), tell(1, 0), back(), back(), tell(0, 0), again(), state())[5:],
                         [[0], [-2], [1, 4, 3, 10, 60, 1, 0]])


class TheLastTwenty(Changed):
    def looked_at_farther(self, times):
        """So many changes, each of them to another last year."""
        return [up_to(100 + number) for number in range(times)]

    def test_twenty_can_be_taken_back(self):
        answered = run(START, *self.looked_at_farther(20), *[back()] * 21, state())
        self.assertEqual(answered[21:], [[left] for left in range(19, -1, -1)] + [[-2], [0, 4, 3, 10, 60, 0, 20]])

    def test_of_twenty_one_the_first_stays(self):
        answered = run(START, *self.looked_at_farther(21), *[back()] * 21, state())
        self.assertEqual(answered[22:], [[left] for left in range(19, -1, -1)] + [[-2], [0, 4, 3, 10, 100, 0, 20]])

    def test_nineteen(self):
        answered = run(START, *self.looked_at_farther(19), state(), *[back()] * 20, state())
        self.assertEqual(answered[20], [0, 4, 3, 10, 118, 19, 0])
        self.assertEqual(answered[-2:], [[-2], [0, 4, 3, 10, 60, 0, 19]])

    def test_all_twenty_back_and_again(self):
        for times in (20, 21, 45):
            with self.subTest(times=times):
                changes = self.looked_at_farther(times)
                answered = run(START, *changes, *[back()] * 20, *[again()] * 21, state(), back(), state())
                self.assertEqual(answered[times + 21:-3], [[left] for left in range(19, -1, -1)] + [[-2]])
                self.assertEqual(answered[-3:], [[0, 4, 3, 10, 99 + times, 20, 0], [19],
                                                 [0, 4, 3, 10, 98 + times, 19, 1]])

    def test_each_state_on_the_way_back_and_again(self):
        changes = (tell(1, 1), tell(2, 0), know(1, 30), up_to(50), know(0, 15), forget(1), drop(), forget(0), up_to(62),
                   tell(0, 3), know(1, 25), drop(), tell(0, 0), tell(2, 2), up_to(44), know(2, 32), drop(), know(1, 22),
                   forget(1), drop(), drop(), up_to(60), tell(2, 3))
        reached = [self.what_is_asked(START, *changes[:number]) for number in range(len(changes) + 1)]
        for steps in range(21):
            with self.subTest(steps=steps):
                gone_back = (START, *changes) + (back(),) * steps
                self.assertEqual(self.what_is_asked(*gone_back), reached[23 - steps])
                self.assertEqual(self.what_is_asked(START, *changes, *[back()] * 20, *[again()] * steps),
                                 reached[3 + steps])
        self.assertEqual(last(START, *changes, *[back()] * 21), [-2])

    def test_a_change_behind_some_taken_back(self):
        changes = self.looked_at_farther(25)
        self.assertEqual(run(START, *changes, *[back()] * 5, state(), up_to(90), state(), *[back()] * 17, state())[31:],
                         [[0, 4, 3, 10, 119, 15, 5], [119], [0, 4, 3, 10, 90, 16, 0]]
                         + [[left] for left in range(15, -1, -1)] + [[-2], [0, 4, 3, 10, 104, 0, 16]])

    def test_twenty_again_behind_all_taken_back(self):
        changes = self.looked_at_farther(20)
        answered = run(START, *changes, *[back()] * 20, *changes, up_to(90), state(), *[back()] * 20, state())
        self.assertEqual(answered[62], [0, 4, 3, 10, 90, 20, 0])
        self.assertEqual(answered[-1], [0, 4, 3, 10, 100, 0, 20])


class Started(unittest.TestCase):
    def test_a_start_ends_both(self):
        for begun in (START, start(1, 2, 0, 9)):
            with self.subTest(begun=begun):
                self.assertEqual(run(*TOLD, back(), begun, back(), again(), state())[6:],
                                 [[-2], [-2], [0] + begun[1:] + [0, 0]])

    def test_a_refused_one_neither(self):
        for refused in (start(0, 3, 10, 60), start(4, 17, 10, 60), start(4, 3, 501, 600), start(4, 3, 10, 9),
                        start(4, 3, 10, 2001), start(LARGEST, LARGEST, LARGEST, LARGEST)):
            with self.subTest(refused=refused):
                self.assertEqual(run(*TOLD, back(), refused, state(), again(), refused, back(), back())[5:],
                                 [[-22], [2, 4, 3, 10, 60, 2, 1], [0], [-22], [2], [1]])

    def test_changes_before_a_start_are_not_counted(self):
        self.assertEqual(run(*TOLD, START, tell(0, 0), back(), back(), again(), again())[5:],
                         [[0], [0], [-2], [0], [-2]])


class State(unittest.TestCase):
    def test_right_behind_a_start(self):
        self.assertEqual(last(START, state()), [0, 4, 3, 10, 60, 0, 0])
        self.assertEqual(last(start(1, 2, 0, 0), state()), [0, 1, 2, 0, 0, 0, 0])
        self.assertEqual(last(start(40, 16, 500, 2000), state()), [0, 40, 16, 500, 2000, 0, 0])

    def test_with_entries(self):
        self.assertEqual(last(*TOLD, state()), [2, 4, 3, 10, 60, 3, 0])
        self.assertEqual(last(START, *[tell(0, 0)] * 10, state()), [10, 4, 3, 10, 60, 10, 0])
        self.assertEqual(last(*TOLD, drop(), state()), [1, 4, 3, 10, 60, 4, 0])

    def test_after_ny_up_to(self):
        self.assertEqual(run(START, up_to(2000), state(), up_to(10), state())[1:],
                         [[60], [0, 4, 3, 10, 2000, 1, 0], [2000], [0, 4, 3, 10, 10, 2, 0]])

    def test_after_some_were_taken_back_and_done_again(self):
        self.assertEqual(run(*TOLD, up_to(50), back(), state(), back(), back(), state(), again(), state())[6:],
                         [[2, 4, 3, 10, 60, 3, 1], [2], [1], [1, 4, 3, 10, 60, 1, 3], [2],
                          [2, 4, 3, 10, 60, 2, 2]])

    def test_above_twenty_changes(self):
        for times, kept in ((19, 19), (20, 20), (21, 20), (22, 20), (60, 20)):
            with self.subTest(times=times):
                changes = [tell(0, 0) if number % 2 == 0 else drop() for number in range(times)]
                self.assertEqual(last(START, *changes, state()), [times % 2, 4, 3, 10, 60, kept, 0])

    def test_refused_changes_are_not_counted(self):
        self.assertEqual(last(*TOLD, *REFUSED, state()), [2, 4, 3, 10, 60, 3, 0])

    def test_where_there_is_no_reading(self):
        self.assertEqual(run(start(4, 3, 10, 13), tell(1, 0), soonest(), state())[2:],
                         [[-33], [1, 4, 3, 10, 13, 1, 0]])


class OtherCalls(unittest.TestCase):
    def test_what_they_answer_when_changes_are_taken_back(self):
        self.assertEqual(
            run(START, tell(0, 0), tell(1, 0), tell(0, 0), know(1, 26), soonest(), latest(), count(), one(), sure(),
                back(), soonest(), latest(), count(), sure(), know(0, 22), know(1, 26), know(2, 34), one(), sure(),
                back(), one(), name(26))[5:],
            [padded(10, 26, 34), padded(22, 26, 58), [1, 6], [0], [1, 2],
             [3], padded(10, 14, 22), padded(46, 50, 58), [1, 20], [0, 0], [0], [0], [0], [1], [3, 7],
             [5], [0], [1, 0, 1]])


if __name__ == "__main__":
    unittest.main()
