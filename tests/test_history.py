import unittest

from reignyears.changes import ny_drop, ny_forget, ny_know, ny_start, ny_tell, ny_up_to
from reignyears.chronicle import Chronicle
from reignyears.history import History
from reignyears.questions import ny_name, ny_state, ny_told, ny_years
from reignyears.reading_questions import (ny_apart, ny_could, ny_count, ny_latest, ny_one, ny_rounds, ny_soonest,
                                          ny_sure, ny_when)


def started():
    chronicle = Chronicle()
    ny_start(chronicle, 4, 3, 10, 60)
    return chronicle


def told(state):
    """A state of the history, written out."""
    entries, last_year = state
    return [(entry.name, entry.reign_year, entry.known) for entry in entries], last_year


class WhatAChangeIs(unittest.TestCase):
    def test_each_of_the_five_calls_is_one_change(self):
        chronicle = started()
        steps = (
            lambda: ny_tell(chronicle, 0, 1), lambda: ny_know(chronicle, 0, 11), lambda: ny_forget(chronicle, 0),
            lambda: ny_up_to(chronicle, 50), lambda: ny_drop(chronicle),
        )
        for number, step in enumerate(steps, start=1):
            self.assertGreaterEqual(step()[0], 0)
            self.assertEqual(len(chronicle.history.past), number)
        self.assertEqual([told(state) for state in chronicle.history.past], [
            ([], 60), ([(0, 1, None)], 60), ([(0, 1, 11)], 60), ([(0, 1, None)], 60), ([(0, 1, None)], 50)])

    def test_refused_it_is_none(self):
        chronicle = started()
        ny_drop(chronicle)
        ny_tell(chronicle, 3, 0)
        ny_know(chronicle, 0, 11)
        ny_forget(chronicle, 0)
        ny_up_to(chronicle, 60)
        ny_up_to(chronicle, 9)
        self.assertEqual(chronicle.history.past, [])

    def test_questions_are_none(self):
        chronicle = started()
        ny_tell(chronicle, 0, 1)
        ny_name(chronicle, 11)
        ny_years(chronicle, 0)
        ny_soonest(chronicle)
        ny_latest(chronicle)
        ny_count(chronicle)
        ny_sure(chronicle)
        ny_when(chronicle, 0)
        ny_apart(chronicle, 0, 0)
        ny_one(chronicle)
        ny_rounds(chronicle, 0)
        ny_could(chronicle, 0, 11)
        ny_told(chronicle, 0)
        ny_state(chronicle)
        self.assertEqual(len(chronicle.history.past), 1)

    def test_a_start_leaves_no_changes_a_refused_one_leaves_them(self):
        chronicle = started()
        ny_tell(chronicle, 0, 1)
        ny_tell(chronicle, 0, 1)
        ny_start(chronicle, 0, 3, 10, 60)
        self.assertEqual(len(chronicle.history.past), 2)
        ny_start(chronicle, 4, 3, 10, 60)
        self.assertEqual((chronicle.history.past, chronicle.history.undone), ([], []))


class TakenBackAndDoneAgain(unittest.TestCase):
    def changed(self, times):
        """Each change leads from one number to the next."""
        history = History()
        for number in range(times):
            history.note_change(number)
        return history

    def test_the_last_change_first(self):
        history = self.changed(3)
        self.assertEqual([history.take_back(3), history.take_back(2)], [2, 1])
        self.assertEqual([history.do_again(1), history.do_again(2)], [2, 3])
        self.assertEqual((history.past, history.undone), ([0, 1, 2], []))

    def test_the_last_twenty(self):
        self.assertEqual(self.changed(19).past, list(range(19)))
        self.assertEqual(self.changed(20).past, list(range(20)))
        self.assertEqual(self.changed(21).past, list(range(1, 21)))
        self.assertEqual(self.changed(45).past, list(range(25, 45)))

    def test_all_twenty_back_and_again(self):
        history = self.changed(25)
        for present in range(25, 5, -1):
            self.assertEqual(history.take_back(present), present - 1)
        self.assertEqual((len(history.past), len(history.undone)), (0, 20))
        for present in range(5, 25):
            self.assertEqual(history.do_again(present), present + 1)
        self.assertEqual((history.past, history.undone), (list(range(5, 25)), []))

    def test_another_change_ends_what_can_be_done_again(self):
        history = self.changed(3)
        history.take_back(3)
        history.take_back(2)
        history.note_change(1)
        self.assertEqual((history.past, history.undone), ([0, 1], []))


if __name__ == "__main__":
    unittest.main()
