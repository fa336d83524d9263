"""shows, been and turned: at first, in the midst, and once it's been said."""

import unittest

from tests.helper import BACK, BEEN, GREATEST, SHOWS, ask, call, cell, last, rounds, state, turned


class Shows(unittest.TestCase):
    def test_at_first(self):
        self.assertEqual(ask(SHOWS), [[0, 0, 0, 0]])
        self.assertEqual(last(cell(3, 1, 2, 0, 1), SHOWS), [1, 0, 0, 0])

    def test_in_the_midst(self):
        self.assertEqual(ask(call(2), SHOWS, call(3), SHOWS, call(1), SHOWS),
                         [[1, 0], [1, 0, 0, 1], [1, 0], [1, 0, 0, 2], [0, 1], [0, 1, 0, 3]])

    def test_once_its_been_said(self):
        self.assertEqual(last(rounds(100), SHOWS), [0, 2, 1, 7])

    def test_calls_of_the_line_arent_counted(self):
        self.assertEqual(last(SHOWS, BEEN, turned(1), call(9), rounds(101), rounds(0), BACK, SHOWS), [0, 0, 0, 0])


class Been(unittest.TestCase):
    def test_at_first(self):
        self.assertEqual(ask(BEEN), [[0]])

    def test_rising_whatever_the_order(self):
        calls = [cell(20, 1, 400, 1, 0)] + [call(p) for p in (20, 3, 11, 1, 2, 10)]
        self.assertEqual(last(*calls, BEEN), [6, 1, 2, 3, 10, 11, 20])

    def test_each_person_once(self):
        self.assertEqual(last(call(3), call(3), call(2), call(3), call(2), BEEN), [2, 2, 3])

    def test_who_left_the_lamp_has_been_too(self):
        self.assertEqual(last(call(2), call(3), BEEN), [2, 2, 3])
        self.assertEqual(last(call(1), BEEN), [1, 1])

    def test_all(self):
        self.assertEqual(last(cell(20, 1, 19, 1, 0), rounds(1), BEEN), [20] + list(range(1, 21)))

    def test_once_its_been_said(self):
        self.assertEqual(last(rounds(100), BEEN), [3, 1, 2, 3])
        self.assertEqual(last(cell(3, 2, 2, 1, 0), call(3), call(1), call(3), call(1), BEEN), [2, 1, 3])


class Turned(unittest.TestCase):
    def test_at_first(self):
        self.assertEqual(ask(turned(1), turned(2), turned(3)), [[0], [0], [0]])

    def test_on(self):
        calls = [cell(3, 3, 9, 1, 0), call(2), call(1), call(2), call(1), call(3), call(2)]
        self.assertEqual(last(*calls, turned(2)), [2])
        self.assertEqual(last(*calls, turned(3)), [1])

    def test_off(self):
        calls = [cell(3, 3, 9, 0, 1), call(1), call(1), call(2), call(1)]
        self.assertEqual(last(*calls, turned(1)), [2])

    def test_once_its_been_said(self):
        self.assertEqual(ask(rounds(100), turned(1), turned(2), turned(3), turned(4)), [[7, 1], [2], [1], [1], [-2]])

    def test_no_such_person(self):
        for p in (0, 4, GREATEST):
            self.assertEqual(ask(turned(p)), [[-2]])
            self.assertEqual(last(rounds(100), turned(p)), [-2])
            self.assertEqual(state(3, call(2), turned(p)), state(3, call(2)))

    def test_no_such_person_at_both_edges_of_n(self):
        for n in (2, 20):
            self.assertEqual(ask(cell(n, 1, 2, 1, 0), turned(n), turned(n + 1), turned(0)), [[0], [0], [-2], [-2]])


class NothingIsChanged(unittest.TestCase):
    def test_by_asking(self):
        plain = [call(2), rounds(1), call(1), BACK]
        asked = []
        for one in plain:
            asked = asked + [one, SHOWS, BEEN, turned(2)]
        self.assertEqual(state(3, *asked), state(3, *plain))


if __name__ == "__main__":
    unittest.main()
