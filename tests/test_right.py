"""right: whether all have been called, once it's been said; and promise 3's refusal."""

import unittest

from tests.helper import BACK, BEEN, RIGHT, ask, call, cell, last, rounds, state


class Said(unittest.TestCase):
    def test_all_have_been_called(self):
        self.assertEqual(last(rounds(100), RIGHT), [1])
        self.assertEqual(last(call(3), call(1), call(2), call(1), RIGHT), [1])

    def test_somebody_hasnt_been_called(self):
        self.assertEqual(last(cell(3, 2, 2, 1, 0), call(2), call(1), call(2), call(1), RIGHT), [0])
        self.assertEqual(last(cell(3, 1, 1, 1, 0), call(3), call(1), RIGHT), [0])

    def test_nobody_but_the_counter_has_been_called(self):
        for n in (2, 20):
            self.assertEqual(last(cell(n, 1, 1, 0, 1), call(1), RIGHT), [0])

    def test_numbers_that_arent_sure_may_be_said_rightly(self):
        self.assertEqual(last(cell(3, 1, 1, 1, 0), call(2), call(3), call(1), RIGHT), [1])
        self.assertEqual(last(cell(3, 1, 1, 1, 0), rounds(2), RIGHT), [1])

    def test_who_left_the_lamp_has_been_called(self):
        self.assertEqual(last(cell(4, 3, 2, 1, 0), *[call(p) for p in (2, 3, 1, 2, 4, 1)], RIGHT), [1])
        self.assertEqual(last(cell(4, 3, 2, 1, 0), *[call(p) for p in (2, 3, 1, 2, 3, 1)], RIGHT), [0])

    def test_two_people(self):
        self.assertEqual(last(cell(2, 1, 1, 1, 0), call(2), call(1), RIGHT), [1])
        self.assertEqual(last(cell(2, 1, 1, 0, 1), call(2), call(1), RIGHT), [1])

    def test_twenty_people(self):
        start = cell(20, 1, 18, 1, 0)
        but_one = [one for p in range(2, 20) for one in (call(p), call(1))]
        self.assertEqual(last(start, *but_one, RIGHT), [0])
        self.assertEqual(last(start, call(20), *but_one, BACK, RIGHT), [-6])
        self.assertEqual(last(start, call(20), call(1), *but_one[:-2], RIGHT), [0])
        self.assertEqual(last(start, rounds(100), RIGHT), [1])

    def test_a_call_that_is_refused_changes_nothing(self):
        self.assertEqual(ask(cell(3, 1, 1, 1, 0), call(2), call(1), RIGHT, call(3), rounds(1), RIGHT, BEEN)[3:],
                         [[0], [-9], [-9], [0], [2, 1, 2]])


class Refused(unittest.TestCase):
    def test_at_first(self):
        self.assertEqual(ask(RIGHT), [[-6]])
        self.assertEqual(last(cell(2, 1, 1, 0, 1), RIGHT), [-6])

    def test_all_have_been_called_but_it_hasnt_been_said(self):
        self.assertEqual(last(rounds(2), RIGHT), [-6])
        self.assertEqual(last(cell(3, 1, 400, 1, 0), rounds(100), RIGHT), [-6])

    def test_behind_a_back_that_undoes_the_saying(self):
        self.assertEqual(ask(rounds(100), RIGHT, BACK, RIGHT, call(1), RIGHT),
                         [[7, 1], [1], [1], [-6], [0, 2], [1]])

    def test_said_anew_behind_a_back(self):
        start = cell(3, 1, 1, 1, 0)
        self.assertEqual(ask(start, call(2), call(1), RIGHT, BACK, RIGHT, call(3), RIGHT, call(1), RIGHT),
                         [[0], [1, 0], [0, 1], [0], [1], [-6], [1, 0], [-6], [0, 1], [1]])

    def test_in_a_new_cell(self):
        self.assertEqual(last(rounds(100), cell(3, 1, 2, 1, 0), RIGHT), [-6])

    def test_all_is_as_it_was(self):
        self.assertEqual(state(3, call(2), RIGHT), state(3, call(2)))


if __name__ == "__main__":
    unittest.main()
