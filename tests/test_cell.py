"""Promise 1: what cell answers, and what it refuses."""

import unittest

from tests.helper import BACK, GREATEST, NUMBERS, SHOWS, ask, call, cell, last, rounds, state


class Taken(unittest.TestCase):
    def taken(self, n, t, c, known, lamp):
        with self.subTest(n=n, t=t, c=c, known=known, lamp=lamp):
            self.assertEqual(ask(cell(n, t, c, known, lamp), SHOWS), [[0], [lamp, 0, 0, 0]])

    def test_an_ordinary_one(self):
        self.taken(7, 2, 12, 0, 1)

    def test_both_edges_of_each_number(self):
        for n in (2, 20):
            for t in (1, 20):
                for c in (1, 400):
                    self.taken(n, t, c, 1, 0)
                    self.taken(n, t, c, 0, 0)
                    self.taken(n, t, c, 0, 1)

    def test_n_is_kept(self):
        for n in (2, 20):
            self.assertEqual(ask(cell(n, 1, 1, 1, 0), call(n), call(n + 1)), [[0], [1, 0], [-2]])

    def test_t_is_kept(self):
        for t in (1, 2, 17):
            calls = [cell(2, t, 400, 1, 0)] + [call(2), call(1)] * t + [call(2)]
            self.assertEqual(last(*calls), [0, t])

    def test_t_at_its_greatest(self):
        calls = [cell(2, 20, 400, 1, 0), rounds(20), call(1), SHOWS, call(2), SHOWS]
        self.assertEqual(ask(*calls)[1:], [[40, 0], [0, 20], [0, 20, 0, 41], [0, 20], [0, 20, 0, 42]])

    def test_c_is_kept(self):
        for c in (1, 2, 5):
            calls = [cell(2, 20, c, 1, 0)] + [call(2), call(1)] * (c - 1)
            self.assertEqual(last(*calls, SHOWS), [0, c - 1, 0, 2 * c - 2])
            self.assertEqual(last(*calls, call(2), call(1), SHOWS), [0, c, 1, 2 * c])

    def test_known_is_kept(self):
        self.assertEqual(last(cell(5, 2, 7, 1, 0), NUMBERS), [2, 7, 8])
        self.assertEqual(last(cell(5, 2, 7, 0, 0), NUMBERS), [1, 8, 8])
        self.assertEqual(last(cell(5, 2, 7, 0, 1), NUMBERS), [1, 8, 8])


class Refused(unittest.TestCase):
    def refused(self, n, t, c, known, lamp):
        with self.subTest(n=n, t=t, c=c, known=known, lamp=lamp):
            self.assertEqual(ask(cell(n, t, c, known, lamp)), [[-1]])
            self.keeps(cell(n, t, c, known, lamp))

    def keeps(self, refused):
        for before in ([], [call(2), call(1)], [rounds(100)], [call(3), rounds(1), BACK]):
            self.assertEqual(state(3, *before, refused), state(3, *before))
        # The numbers that nothing shows at once tell in how it goes on.
        self.assertEqual(ask(refused, rounds(100), SHOWS, BACK)[1:], ask(rounds(100), SHOWS, BACK))
        start = cell(4, 2, 5, 0, 1)
        self.assertEqual(state(4, start, refused, rounds(100)), state(4, start, rounds(100)))

    def test_n(self):
        for n in (0, 1, 21, GREATEST):
            self.refused(n, 1, 2, 1, 0)

    def test_t(self):
        for t in (0, 21, GREATEST):
            self.refused(3, t, 2, 1, 0)

    def test_c(self):
        for c in (0, 401, GREATEST):
            self.refused(3, 1, c, 1, 0)

    def test_known(self):
        for known in (2, GREATEST):
            self.refused(3, 1, 2, known, 0)
            self.refused(3, 1, 2, known, 1)

    def test_lamp(self):
        for lamp in (2, GREATEST):
            self.refused(3, 1, 2, 0, lamp)
            self.refused(3, 1, 2, 1, lamp)

    def test_known_to_be_off_and_burning(self):
        self.refused(3, 1, 2, 1, 1)
        self.refused(20, 20, 400, 1, 1)

    def test_all_at_once(self):
        self.refused(0, 0, 0, 0, 0)
        self.refused(GREATEST, GREATEST, GREATEST, GREATEST, GREATEST)
        self.refused(1, 21, 401, 2, 2)


if __name__ == "__main__":
    unittest.main()
