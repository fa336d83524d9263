"""How a line begins."""

import unittest

from tests.helper import ASKED, BACK, BEEN, NUMBERS, SHOWS, SURE, ask, call, cell, last, rounds, state, turned


class Begin(unittest.TestCase):
    def test_nobody_has_been_called(self):
        self.assertEqual(ask(SHOWS, BEEN, BACK), [[0, 0, 0, 0], [0], [-7]])

    def test_there_are_three_people(self):
        self.assertEqual(ask(turned(1), turned(2), turned(3), turned(4)), [[0], [0], [0], [-2]])
        self.assertEqual(ask(call(3), call(4)), [[1, 0], [-2]])

    def test_each_turns_it_on_once(self):
        self.assertEqual(ask(call(2), call(1), call(2)), [[1, 0], [0, 1], [0, 1]])

    def test_two_are_counted(self):
        self.assertEqual(ask(call(2), call(1), call(3), call(1), SHOWS),
                         [[1, 0], [0, 1], [1, 1], [0, 2], [0, 2, 1, 4]])

    def test_the_lamp_is_off(self):
        self.assertEqual(ask(call(1), SHOWS), [[0, 0], [0, 0, 0, 1]])

    def test_the_lamp_is_known_to_be_off(self):
        self.assertEqual(ask(SURE, NUMBERS), [[1], [1, 2, 2]])

    def test_what_is_asked_at_first(self):
        self.assertEqual(ask(*ASKED), [[-6], [1], [1], [1, 2, 2], [-6], [4]])

    def test_it_is_as_if_that_cell_had_been_told(self):
        lines = [[], [call(2)], [rounds(1)], [rounds(2)], [rounds(100)], [call(3), call(1), BACK]]
        for calls in lines:
            with self.subTest(calls=calls):
                self.assertEqual(state(3, *calls), state(3, cell(3, 1, 2, 1, 0), *calls))


class CellInALine(unittest.TestCase):
    def test_first(self):
        self.assertEqual(ask(cell(5, 2, 9, 0, 1), SHOWS, BEEN, turned(5), turned(6)),
                         [[0], [1, 0, 0, 0], [0], [0], [-2]])

    def test_in_the_middle_all_begins_anew(self):
        calls = [call(2), call(1), call(3), cell(4, 1, 3, 1, 0)]
        self.assertEqual(state(4, *calls), [[0, 0, 0, 0], [0], [0], [0], [0], [0], [-2],
                                             [-6], [1], [1], [1, 3, 3], [-6], [6]])
        self.assertEqual(last(*calls, BACK), [-7])

    def test_in_the_middle_turns_are_given_anew(self):
        self.assertEqual(ask(call(2), call(1), call(2), cell(3, 1, 2, 1, 0), call(2)),
                         [[1, 0], [0, 1], [0, 1], [0], [1, 0]])

    def test_behind_its_being_said(self):
        self.assertEqual(ask(rounds(100), cell(2, 1, 1, 1, 0), SHOWS, call(2), call(1)),
                         [[7, 1], [0], [0, 0, 0, 0], [1, 0], [0, 1]])

    def test_more_than_once(self):
        self.assertEqual(
            ask(cell(2, 1, 1, 0, 1), call(1), cell(20, 20, 400, 0, 1), turned(20), cell(2, 3, 4, 0, 0),
                turned(3), call(2), cell(3, 1, 2, 0, 1), SHOWS),
            [[0], [0, 1], [0], [0], [0], [-2], [1, 0], [0], [1, 0, 0, 0]])

    def test_fewer_people_behind_more(self):
        self.assertEqual(ask(cell(9, 1, 2, 1, 0), call(9), cell(2, 1, 2, 1, 0), call(9), BEEN),
                         [[0], [1, 0], [0], [-2], [0]])


if __name__ == "__main__":
    unittest.main()
