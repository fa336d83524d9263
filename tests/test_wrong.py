"""wrong: the fewest calls from the first on till it's said wrongly; and promise 3's refusal."""

import unittest

from tests.helper import BACK, RIGHT, SHOWS, SURE, WRONG, ask, call, cell, last, rounds, state


class KnownToBeOff(unittest.TestCase):
    def test_each_takes_two_calls(self):
        for n, t, c, fewest in ((3, 1, 1, 2), (3, 2, 1, 2), (3, 2, 2, 4), (4, 1, 2, 4), (5, 3, 8, 16), (5, 3, 9, 18),
                                (3, 20, 20, 40), (20, 1, 1, 2), (20, 1, 18, 36), (20, 20, 360, 720)):
            with self.subTest(n=n, t=t, c=c):
                self.assertEqual(last(cell(n, t, c, 1, 0), WRONG), [fewest])

    def test_never(self):
        for n, t, c in ((2, 1, 1), (2, 20, 1), (3, 1, 2), (3, 2, 3), (4, 1, 3), (5, 3, 10), (20, 1, 19), (20, 20, 361),
                        (2, 1, 400), (20, 20, 400)):
            with self.subTest(n=n, t=t, c=c):
                self.assertEqual(last(cell(n, t, c, 1, 0), WRONG), [-6])


class NotKnown(unittest.TestCase):
    def test_a_lamp_that_may_burn_spares_a_call(self):
        for n, t, c, fewest in ((2, 1, 1, 1), (2, 20, 1, 1), (3, 1, 1, 1), (3, 1, 2, 3), (3, 2, 3, 5), (4, 1, 3, 5),
                                (5, 3, 9, 17), (5, 3, 10, 19), (20, 1, 1, 1), (20, 1, 19, 37), (20, 20, 361, 721)):
            for lamp in (0, 1):
                with self.subTest(n=n, t=t, c=c, lamp=lamp):
                    self.assertEqual(last(cell(n, t, c, 0, lamp), WRONG), [fewest])

    def test_never(self):
        for n, t, c in ((2, 1, 2), (2, 20, 2), (3, 1, 3), (3, 2, 4), (4, 1, 4), (5, 3, 11), (20, 1, 20), (20, 20, 362),
                        (2, 1, 400), (20, 20, 400)):
            for lamp in (0, 1):
                with self.subTest(n=n, t=t, c=c, lamp=lamp):
                    self.assertEqual(last(cell(n, t, c, 0, lamp), WRONG), [-6])


class Told(unittest.TestCase):
    def test_at_first(self):
        self.assertEqual(ask(WRONG), [[-6]])

    def test_so_many_calls_do_say_it_wrongly(self):
        self.assertEqual(ask(cell(3, 1, 1, 1, 0), WRONG, call(2), call(1), SHOWS, RIGHT),
                         [[0], [2], [1, 0], [0, 1], [0, 1, 1, 2], [0]])
        self.assertEqual(ask(cell(3, 1, 2, 0, 1), WRONG, call(1), call(2), call(1), SHOWS, RIGHT),
                         [[0], [3], [0, 1], [1, 1], [0, 2], [0, 2, 1, 3], [0]])

    def test_whatever_has_been_called_meanwhile(self):
        for start in (cell(3, 1, 1, 1, 0), cell(3, 2, 2, 1, 0), cell(3, 1, 2, 0, 0), cell(3, 1, 2, 0, 1),
                      cell(3, 1, 2, 1, 0), cell(3, 1, 3, 0, 1), cell(5, 3, 10, 0, 0)):
            for calls in ([call(2)], [call(3), call(1)], [call(1)], [rounds(1)], [rounds(100)], [rounds(100), BACK],
                          [call(2), call(3), call(1), call(2)]):
                with self.subTest(start=start, calls=calls):
                    self.assertEqual(last(start, *calls, WRONG), last(start, WRONG))

    def test_never_just_where_the_numbers_are_sure(self):
        for n, t, known in ((2, 1, 0), (2, 20, 1), (4, 3, 0), (4, 3, 1), (20, 20, 0), (20, 20, 1)):
            for c in range(1, 401):
                told = ask(cell(n, t, c, known, 0), SURE, WRONG)[1:]
                self.assertEqual(told[1] == [-6], told[0] == [1], (n, t, c, known))

    def test_all_is_as_it_was(self):
        self.assertEqual(state(3, call(2), WRONG), state(3, call(2)))


if __name__ == "__main__":
    unittest.main()
