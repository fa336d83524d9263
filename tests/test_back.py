"""back: the last call into the cell is undone, wherever it came from."""

import unittest

from tests.helper import BACK, BEEN, SHOWS, ask, call, cell, last, rounds, state, turned


class Undone(unittest.TestCase):
    def test_a_call_that_turned_the_lamp_on(self):
        self.assertEqual(ask(call(2), BACK, SHOWS, BEEN, turned(2)), [[1, 0], [2], [0, 0, 0, 0], [0], [0]])

    def test_a_call_that_was_counted(self):
        self.assertEqual(ask(call(2), call(1), BACK, SHOWS, BEEN, turned(1)),
                         [[1, 0], [0, 1], [1], [1, 0, 0, 1], [1, 2], [0]])

    def test_a_call_that_left_the_lamp(self):
        self.assertEqual(ask(call(1), BACK, SHOWS), [[0, 0], [1], [0, 0, 0, 0]])
        self.assertEqual(ask(call(2), call(3), BACK, SHOWS, BEEN), [[1, 0], [1, 0], [3], [1, 0, 0, 1], [1, 2]])

    def test_a_call_that_left_the_lamp_at_t_times(self):
        self.assertEqual(ask(call(2), call(1), call(2), BACK, SHOWS, turned(2)),
                         [[1, 0], [0, 1], [0, 1], [2], [0, 1, 0, 2], [1]])

    def test_who_was_called_before_has_still_been(self):
        self.assertEqual(ask(call(2), call(3), call(2), BACK, BEEN, BACK, BEEN),
                         [[1, 0], [1, 0], [1, 0], [2], [2, 2, 3], [3], [1, 2]])

    def test_of_rounds_the_last_call(self):
        self.assertEqual(ask(rounds(2), BACK, SHOWS), [[6, 0], [3], [0, 1, 0, 5]])
        self.assertEqual(state(3, rounds(2), BACK), state(3, *[call(p) for p in (1, 2, 3, 1, 2)]))

    def test_of_rounds_that_were_none_the_call_before(self):
        self.assertEqual(ask(call(3), rounds(0), BACK), [[1, 0], [0, 0], [3]])

    def test_the_call_with_which_it_was_said(self):
        told = ask(rounds(100), BACK, SHOWS, call(1), SHOWS, call(2))
        self.assertEqual(told, [[7, 1], [1], [1, 1, 0, 6], [0, 2], [0, 2, 1, 7], [-9]])

    def test_rounds_behind_the_undone_saying(self):
        self.assertEqual(ask(rounds(100), BACK, rounds(5), SHOWS), [[7, 1], [1], [1, 1], [0, 2, 1, 7]])

    def test_a_turn_comes_back(self):
        self.assertEqual(ask(call(2), BACK, call(2), call(1), BACK, BACK, call(2)),
                         [[1, 0], [2], [1, 0], [0, 1], [1], [2], [1, 0]])

    def test_several_down_to_nobody_called(self):
        order = (3, 1, 1, 2, 3, 1)
        calls = [call(p) for p in order]
        told = ask(*calls, *[BACK] * 7)
        self.assertEqual(told[6:], [[1], [3], [2], [1], [1], [3], [-7]])
        for made in range(len(order)):
            undone = [BACK] * (len(order) - made)
            self.assertEqual(state(3, *calls, *undone), state(3, *calls[:made]))

    def test_down_to_a_lamp_that_burned_at_first(self):
        start = cell(3, 2, 4, 0, 1)
        self.assertEqual(ask(start, call(1), call(2), BACK, BACK, SHOWS, BACK),
                         [[0], [0, 1], [1, 1], [2], [1], [1, 0, 0, 0], [-7]])


class Refused(unittest.TestCase):
    def test_nobody_has_been_called(self):
        self.assertEqual(ask(BACK, SHOWS, BACK), [[-7], [0, 0, 0, 0], [-7]])
        self.assertEqual(state(3, BACK), state(3))

    def test_nobody_has_been_called_into_this_cell(self):
        self.assertEqual(last(call(2), cell(3, 1, 2, 1, 0), BACK), [-7])

    def test_a_refused_call_isnt_one(self):
        self.assertEqual(last(call(4), BACK), [-7])
        self.assertEqual(last(rounds(101), BACK), [-7])
        self.assertEqual(last(call(3), call(0), BACK), [3])
        self.assertEqual(last(rounds(100), call(3), BACK), [1])


if __name__ == "__main__":
    unittest.main()
