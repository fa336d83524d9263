"""All thirteen calls in one line, and that what is only asked changes nothing."""

import itertools
import unittest

from lampcell.cell import answers
from tests.helper import (ASKED, BACK, BEEN, COMES, NUMBERS, RIGHT, SHOWS, SOON, SURE, WRONG, ask, call, cell, cut,
                          line_of, rounds, turned)

LINES = (
    [call(2), SHOWS, rounds(1), BEEN, BACK, SHOWS, turned(2), call(1), BACK, BACK, BACK, SHOWS, BACK, BACK],
    [rounds(100), SHOWS, BEEN, turned(1), BACK, SHOWS, BEEN, turned(1), call(1), SHOWS, call(2), rounds(1)],
    [cell(4, 2, 5, 0, 1), SHOWS, call(1), call(3), SHOWS, BEEN, turned(3), BACK, BACK, BACK, SHOWS],
    [cell(3, 1, 1, 1, 0), call(2), call(1), SHOWS, BEEN, BACK, SHOWS, BEEN, turned(2), call(3), call(1), BEEN],
    [cell(3, 1, 3, 1, 0), rounds(3), SHOWS, BEEN, turned(3), BACK, SHOWS, turned(3), call(4), cell(1, 1, 1, 1, 0)],
    [cell(20, 20, 400, 0, 0), rounds(100), SHOWS, BEEN, turned(20), BACK, turned(20), SHOWS],
)


class AskedAlone(unittest.TestCase):
    def test_changes_nothing(self):
        for line in LINES:
            asked = [one for plain in line for one in ASKED + [plain]]
            with self.subTest(line=line):
                self.assertEqual(ask(*asked)[len(ASKED)::len(ASKED) + 1], ask(*line))

    def test_each_alone_changes_nothing(self):
        for line, question in itertools.product(LINES, ASKED):
            asked = [one for plain in line for one in (question, plain)]
            with self.subTest(line=line, question=question):
                self.assertEqual(ask(*asked)[1::2], ask(*line))

    def test_twice_answers_the_same(self):
        for line in LINES:
            told = ask(*line, *ASKED, *ASKED)[len(line):]
            self.assertEqual(told[len(ASKED):], told[:len(ASKED)])

    def test_in_any_order_answers_the_same(self):
        for line in LINES:
            told = ask(*line, *ASKED)[len(line):]
            self.assertEqual(ask(*line, *ASKED[::-1])[:len(line) - 1:-1], told)


class AllThirteen(unittest.TestCase):
    def test_forty_calls(self):
        asked_and_told = [
            (SOON, [4]), (RIGHT, [-6]), (call(2), [1, 0]), (SOON, [3]), (cell(3, 1, 2, 1, 1), [-1]),
            (rounds(100), [4, 1]), (RIGHT, [1]), (SOON, [-9]), (BACK, [1]), (RIGHT, [-6]),
            (SHOWS, [1, 1, 0, 4]), (BEEN, [3, 1, 2, 3]), (turned(3), [1]), (SURE, [1]), (COMES, [1]),
            (NUMBERS, [1, 2, 2]), (WRONG, [-6]), (cell(4, 2, 5, 0, 1), [0]), (SURE, [0]), (COMES, [1]),
            (NUMBERS, [1, 6, 6]), (WRONG, [9]), (SOON, [9]), (call(1), [0, 1]), (SOON, [8]),
            (call(5), [-2]), (rounds(1), [4, 0]), (SHOWS, [1, 1, 0, 5]), (turned(2), [1]), (BACK, [4]),
            (BEEN, [3, 1, 2, 3]), (WRONG, [9]), (cell(2, 1, 2, 0, 0), [0]), (SOON, [-6]), (SURE, [1]),
            (COMES, [0]), (NUMBERS, [0, 0, 0]), (BACK, [-7]), (rounds(101), [-1]), (RIGHT, [-6]),
        ]
        self.assertEqual(len(asked_and_told), 40)
        self.assertEqual(sorted({asked[0] for asked, told in asked_and_told}), list(range(13)))
        self.assertEqual(ask(*[asked for asked, told in asked_and_told]), [told for asked, told in asked_and_told])

    def test_mostly_cells(self):
        others = [call(2), rounds(1), BACK, SHOWS, BEEN, turned(2)] + ASKED
        line = []
        for one in others:
            line = line + [cell(5, 3, 10, 0, 1), cell(3, 1, 1, 1, 0), one]
        line = line + [cell(21, 1, 1, 1, 0), cell(5, 3, 10, 0, 1), cell(5, 3, 11, 0, 1), cell(2, 1, 1, 1, 0)]
        self.assertEqual((len(line), len(line_of(line))), (40, 183))
        told = [[1, 0], [3, 0], [-7], [0, 0, 0, 0], [0], [0], [-6], [0], [1], [1, 2, 2], [2], [2]]
        expected = [answer for one in told for answer in ([0], [0], one)] + [[-1], [0], [0], [0]]
        self.assertEqual(ask(*line), expected)

    def test_two_hundred_and_forty_numbers(self):
        cells = [cell(20, 20, 400, 0, 1), cell(2, 1, 1, 1, 0), cell(0, 0, 0, 0, 0), cell(7, 3, 18, 1, 0)] * 10
        self.assertEqual(len(line_of(cells)), 240)
        self.assertEqual(cut(answers(line_of(cells))), [[0], [0], [-1], [0]] * 10)

    def test_each_as_the_only_one(self):
        told = [(cell(2, 1, 1, 1, 0), [0]), (call(1), [0, 0]), (rounds(3), [7, 1]), (BACK, [-7]), (SHOWS, [0, 0, 0, 0]),
                (BEEN, [0]), (turned(1), [0]), (RIGHT, [-6]), (SURE, [1]), (COMES, [1]), (NUMBERS, [1, 2, 2]),
                (WRONG, [-6]), (SOON, [4])]
        for one, expected in told:
            self.assertEqual(ask(one), [expected])


if __name__ == "__main__":
    unittest.main()
