"""call: what whoever is called does with the lamp, and promise 2's refusals."""

import unittest

from tests.helper import BACK, GREATEST, SHOWS, ask, call, cell, last, rounds, state, turned


class Counter(unittest.TestCase):
    def test_leaves_a_lamp_that_is_off(self):
        self.assertEqual(ask(call(1), turned(1), call(1), SHOWS), [[0, 0], [0], [0, 0], [0, 0, 0, 2]])

    def test_turns_off_a_burning_one_and_counts_it(self):
        self.assertEqual(ask(call(2), call(1), turned(1), SHOWS), [[1, 0], [0, 1], [1], [0, 1, 0, 2]])

    def test_counts_one_that_burned_at_first(self):
        self.assertEqual(ask(cell(3, 1, 2, 0, 1), call(1), SHOWS), [[0], [0, 1], [0, 1, 0, 1]])

    def test_says_so_at_the_cth(self):
        self.assertEqual(ask(call(3), call(1), SHOWS, call(2), call(1), SHOWS),
                         [[1, 0], [0, 1], [0, 1, 0, 2], [1, 1], [0, 2], [0, 2, 1, 4]])

    def test_says_so_at_the_first(self):
        self.assertEqual(ask(cell(4, 1, 1, 0, 1), call(1), SHOWS), [[0], [0, 1], [0, 1, 1, 1]])

    def test_isnt_held_to_t_times(self):
        calls = [cell(4, 1, 3, 1, 0), call(2), call(1), call(3), call(1), call(4), call(1)]
        self.assertEqual(last(*calls), [0, 3])
        self.assertEqual(last(*calls, turned(1)), [3])


class AnotherOne(unittest.TestCase):
    def test_turns_on_a_lamp_that_is_off(self):
        self.assertEqual(ask(call(2), turned(2), SHOWS), [[1, 0], [1], [1, 0, 0, 1]])

    def test_leaves_a_burning_one(self):
        self.assertEqual(ask(call(2), call(3), turned(3), call(2), turned(2), SHOWS),
                         [[1, 0], [1, 0], [0], [1, 0], [1], [1, 0, 0, 3]])

    def test_leaves_one_that_burned_at_first(self):
        self.assertEqual(ask(cell(3, 1, 2, 0, 1), call(2), turned(2)), [[0], [1, 0], [0]])

    def test_leaves_it_off_at_t_times(self):
        self.assertEqual(ask(call(2), call(1), call(2), turned(2), SHOWS),
                         [[1, 0], [0, 1], [0, 1], [1], [0, 1, 0, 3]])

    def test_turns_it_on_below_t_times(self):
        calls = [cell(3, 2, 9, 1, 0), call(2), call(1), call(2), call(1), call(2), turned(2)]
        self.assertEqual(ask(*calls), [[0], [1, 0], [0, 1], [1, 1], [0, 2], [0, 2], [2]])

    def test_has_times_of_their_own(self):
        self.assertEqual(ask(cell(3, 1, 3, 1, 0), call(2), call(1), call(2), call(3), turned(2), turned(3)),
                         [[0], [1, 0], [0, 1], [0, 1], [1, 1], [1], [1]])


class Refused(unittest.TestCase):
    def test_no_such_person(self):
        for p in (0, 4, GREATEST):
            with self.subTest(p=p):
                self.assertEqual(ask(call(p)), [[-2]])
                self.assertEqual(state(3, call(2), call(p)), state(3, call(2)))
                self.assertEqual(last(call(2), call(p), BACK), [2])

    def test_no_such_person_at_both_edges_of_n(self):
        for n in (2, 20):
            self.assertEqual(ask(cell(n, 1, 2, 1, 0), call(n + 1), call(0), call(n)), [[0], [-2], [-2], [1, 0]])

    def test_once_its_been_said(self):
        for p in (1, 2, 3):
            with self.subTest(p=p):
                self.assertEqual(last(rounds(100), call(p)), [-9])
                self.assertEqual(state(3, rounds(100), call(p)), state(3, rounds(100)))

    def test_no_such_person_is_told_first(self):
        for p in (0, 4, GREATEST):
            self.assertEqual(last(rounds(100), call(p)), [-2])


if __name__ == "__main__":
    unittest.main()
