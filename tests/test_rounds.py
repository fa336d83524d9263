"""rounds: how many calls are made, when they end, and promise 2's refusals."""

import unittest

from tests.helper import BACK, BEEN, GREATEST, SHOWS, ask, call, cell, last, rounds, state


class Made(unittest.TestCase):
    def test_one(self):
        self.assertEqual(ask(rounds(1), SHOWS, BEEN), [[3, 0], [1, 0, 0, 3], [3, 1, 2, 3]])

    def test_all_are_called_from_1_on(self):
        self.assertEqual(ask(rounds(1), BACK, BACK, BACK, BACK), [[3, 0], [3], [2], [1], [-7]])
        self.assertEqual(state(3, rounds(2)), state(3, *[call(p) for p in (1, 2, 3, 1, 2, 3)]))

    def test_several(self):
        self.assertEqual(ask(cell(5, 1, 4, 1, 0), rounds(4), SHOWS), [[0], [20, 0], [1, 3, 0, 20]])

    def test_one_begins_with_1_wherever_the_last_call_was(self):
        self.assertEqual(ask(call(2), rounds(1), SHOWS), [[1, 0], [3, 0], [1, 1, 0, 4]])
        self.assertEqual(state(3, call(2), rounds(1)), state(3, *[call(p) for p in (2, 1, 2, 3)]))

    def test_none(self):
        self.assertEqual(ask(rounds(0), SHOWS, BEEN, BACK), [[0, 0], [0, 0, 0, 0], [0], [-7]])
        self.assertEqual(state(3, call(2), rounds(0)), state(3, call(2)))

    def test_ends_early_when_1_says_so(self):
        self.assertEqual(ask(rounds(3), SHOWS), [[7, 1], [0, 2, 1, 7]])
        self.assertEqual(ask(cell(9, 1, 1, 0, 1), rounds(1), SHOWS, BEEN), [[0], [1, 1], [0, 1, 1, 1], [1, 1]])

    def test_no_more_once_its_been_said(self):
        for k in (3, 4, 100):
            self.assertEqual(ask(rounds(k), SHOWS), [[7, 1], [0, 2, 1, 7]])

    def test_its_own_calls_alone_are_told(self):
        self.assertEqual(ask(rounds(1), rounds(1), rounds(1), SHOWS), [[3, 0], [3, 0], [1, 1], [0, 2, 1, 7]])

    def test_a_hundred(self):
        self.assertEqual(ask(cell(20, 20, 400, 0, 1), rounds(100), SHOWS)[1][1:], [0])
        self.assertEqual(ask(cell(20, 1, 400, 1, 0), rounds(100), rounds(100), SHOWS),
                         [[0], [2000, 0], [2000, 0], [0, 19, 0, 4000]])

    def test_as_many_as_a_line_can_hold(self):
        told = ask(cell(20, 20, 400, 0, 1), *[rounds(100)] * 38, SHOWS)
        self.assertEqual(told[1:39], [[2000, 0]] * 38)
        self.assertEqual(told[39], [0, 381, 0, 76000])


class Refused(unittest.TestCase):
    def test_above_a_hundred(self):
        for k in (101, GREATEST):
            self.assertEqual(ask(rounds(k)), [[-1]])
            self.assertEqual(state(3, call(2), rounds(k)), state(3, call(2)))

    def test_once_its_been_said(self):
        for k in (0, 1, 100):
            self.assertEqual(last(rounds(100), rounds(k)), [-9])
            self.assertEqual(state(3, rounds(100), rounds(k)), state(3, rounds(100)))

    def test_once_its_been_said_by_a_call(self):
        self.assertEqual(last(cell(3, 1, 1, 0, 1), call(1), rounds(1)), [-9])

    def test_above_a_hundred_is_told_first(self):
        for k in (101, GREATEST):
            self.assertEqual(last(rounds(100), rounds(k)), [-1])


if __name__ == "__main__":
    unittest.main()
