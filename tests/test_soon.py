"""soon: the fewest calls from now on till it's said; and the refusals of promises 2 and 3."""

import unittest

from tests.helper import BACK, GREATEST, SHOWS, SOON, ask, call, cell, last, rounds, state


class FromNowOn(unittest.TestCase):
    def test_at_first(self):
        self.assertEqual(ask(SOON), [[4]])

    def test_at_first_with_the_lamp_off(self):
        for n, t, c, fewest in ((2, 1, 1, 2), (3, 1, 1, 2), (5, 3, 7, 14), (20, 20, 1, 2), (20, 20, 379, 758)):
            for known in (0, 1):
                with self.subTest(n=n, t=t, c=c, known=known):
                    self.assertEqual(last(cell(n, t, c, known, 0), SOON), [fewest])

    def test_at_first_with_the_lamp_burning(self):
        for n, t, c, fewest in ((2, 1, 1, 1), (3, 1, 1, 1), (5, 3, 7, 13), (20, 20, 1, 1), (20, 20, 379, 757)):
            with self.subTest(n=n, t=t, c=c):
                self.assertEqual(last(cell(n, t, c, 0, 1), SOON), [fewest])

    def test_in_the_midst(self):
        self.assertEqual(ask(call(2), SOON, call(1), SOON, call(3), SOON, call(1), SOON),
                         [[1, 0], [3], [0, 1], [2], [1, 1], [1], [0, 2], [-9]])

    def test_a_call_that_left_the_lamp_brings_it_no_nearer(self):
        self.assertEqual(ask(call(1), SOON, call(2), call(3), SOON, call(1), call(2), SOON),
                         [[0, 0], [4], [1, 0], [1, 0], [3], [0, 1], [0, 1], [2]])

    def test_in_the_midst_of_one_that_burned(self):
        self.assertEqual(ask(cell(3, 1, 3, 0, 1), call(2), SOON, call(1), SOON, call(2), SOON, call(1), SOON),
                         [[0], [1, 0], [5], [0, 1], [4], [1, 1], [3], [0, 2], [2]])

    def test_behind_rounds(self):
        self.assertEqual(ask(rounds(1), SOON, rounds(1), SOON), [[3, 0], [3], [3, 0], [1]])
        self.assertEqual(last(cell(20, 20, 380, 1, 0), rounds(100), SOON), [561])

    def test_behind_a_back(self):
        self.assertEqual(ask(call(2), call(1), BACK, SOON, BACK, SOON), [[1, 0], [0, 1], [1], [3], [2], [4]])

    def test_behind_a_back_that_undoes_the_saying(self):
        self.assertEqual(ask(rounds(100), SOON, BACK, SOON, BACK, SOON), [[7, 1], [-9], [1], [1], [3], [2]])

    def test_behind_a_back_to_a_lamp_that_burned(self):
        self.assertEqual(ask(cell(2, 1, 2, 0, 1), call(1), SOON, BACK, SOON), [[0], [0, 1], [2], [1], [3]])

    def test_in_a_new_cell(self):
        self.assertEqual(last(rounds(100), cell(4, 1, 3, 1, 0), SOON), [6])

    def test_so_many_calls_do_lead_to_it(self):
        start = cell(3, 2, 4, 0, 1)
        self.assertEqual(ask(start, SOON, *[call(p) for p in (1, 2, 1, 2, 1, 3, 1)], SHOWS)[1::8],
                         [[7], [0, 4, 1, 7]])


class AsOftenAsIsWanted(unittest.TestCase):
    """The others can turn it on just as often as is wanted, once more, and once less."""

    def each(self, c_of, fewest_of):
        for n, t in ((2, 1), (2, 20), (3, 1), (3, 2), (5, 3), (20, 1), (20, 20)):
            for lamp in (0, 1):
                reach = (n - 1) * t + lamp
                c = c_of(reach)
                if c > 0:
                    with self.subTest(n=n, t=t, c=c, lamp=lamp):
                        self.assertEqual(last(cell(n, t, c, 0, lamp), SOON), [fewest_of(c, lamp)])

    def test_just_as_often(self):
        self.each(lambda reach: reach, lambda c, lamp: 2 * c - lamp)

    def test_once_more(self):
        self.each(lambda reach: reach - 1, lambda c, lamp: 2 * c - lamp)

    def test_once_less(self):
        self.each(lambda reach: reach + 1, lambda c, lamp: -6)

    def test_much_less(self):
        self.each(lambda reach: 400, lambda c, lamp: -6)

    def test_known_to_be_off(self):
        for c, fewest in ((1, 2), (2, 4), (3, -6), (4, -6)):
            self.assertEqual(last(cell(3, 1, c, 1, 0), SOON), [fewest])

    def test_in_the_midst(self):
        for c, told in ((1, [[-9], [-9]]), (2, [[2], [1]]), (3, [[-6], [-6]])):
            calls = [cell(3, 1, c, 1, 0), call(2), call(1), SOON, call(3), SOON]
            self.assertEqual(ask(*calls)[3::2], told)

    def test_all_turns_taken_and_the_lamp_burning(self):
        taken = [call(p) for p in (2, 1, 3)]
        self.assertEqual(last(cell(3, 1, 2, 1, 0), *taken, SOON), [1])
        self.assertEqual(last(cell(3, 1, 3, 1, 0), *taken, SOON), [-6])

    def test_all_turns_taken_and_the_lamp_off(self):
        taken = [call(p) for p in (2, 1, 3, 1)]
        self.assertEqual(last(cell(3, 1, 3, 1, 0), *taken, SOON), [-6])
        self.assertEqual(last(cell(3, 1, 400, 1, 0), rounds(100), SOON), [-6])

    def test_not_known_and_off_it_lacks_one(self):
        self.assertEqual(ask(cell(3, 1, 3, 0, 0), SOON, cell(3, 1, 3, 0, 1), SOON), [[0], [-6], [0], [5]])


class Refused(unittest.TestCase):
    def test_its_been_said(self):
        self.assertEqual(last(rounds(100), SOON), [-9])
        self.assertEqual(last(cell(2, 1, 1, 0, 1), call(1), SOON), [-9])

    def test_its_been_said_wrongly(self):
        self.assertEqual(last(cell(3, 1, 1, 1, 0), call(2), call(1), SOON), [-9])

    def test_its_been_said_and_no_turn_is_left(self):
        self.assertEqual(last(cell(2, 1, 1, 1, 0), call(2), call(1), SOON), [-9])
        self.assertEqual(last(cell(20, 20, 381, 0, 1), *[rounds(100)] * 4, SOON), [-9])

    def test_all_is_as_it_was(self):
        for calls in ([call(2)], [rounds(100)], [cell(3, 1, 3, 1, 0), call(2)]):
            self.assertEqual(state(3, *calls, SOON), state(3, *calls))

    def test_a_refused_call_brings_it_no_nearer(self):
        self.assertEqual(last(call(2), call(0), call(GREATEST), rounds(101), SOON), [3])


if __name__ == "__main__":
    unittest.main()
