"""Many lines against a slow model that keeps only the order of calls and goes through it anew each time."""

import random
import unittest

from lampcell.cell import answers
from tests.helper import GREATEST, cut, line_of

LINES = 3000


class Model:
    def __init__(self):
        self.numbers = (3, 1, 2, 1, 0)
        self.order = []

    def outcome(self):
        """The lamp, how many are counted, and how often each has turned the lamp."""
        n, t, c, known, lamp = self.numbers
        off = 0
        on = {p: 0 for p in range(2, n + 1)}
        for p in self.order:
            if p == 1 and lamp == 1:
                lamp = 0
                off = off + 1
            elif p != 1 and lamp == 0 and on[p] < t:
                lamp = 1
                on[p] = on[p] + 1
        return lamp, off, {1: off, **on}

    def is_said(self):
        return self.outcome()[1] >= self.numbers[2]

    def cell(self, n, t, c, known, lamp):
        right = n in range(2, 21) and t in range(1, 21) and c in range(1, 401)
        if not right or (known, lamp) not in [(1, 0), (0, 0), (0, 1)]:
            return [-1]
        self.numbers = (n, t, c, known, lamp)
        self.order = []
        return [0]

    def call(self, p):
        if p not in range(1, self.numbers[0] + 1):
            return [-2]
        if self.is_said():
            return [-9]
        self.order = self.order + [p]
        return list(self.outcome()[:2])

    def rounds(self, k):
        if k > 100:
            return [-1]
        if self.is_said():
            return [-9]
        made = 0
        for p in list(range(1, self.numbers[0] + 1)) * k:
            if not self.is_said():
                self.order = self.order + [p]
                made = made + 1
        return [made, int(self.is_said())]

    def back(self):
        if not self.order:
            return [-7]
        gone = self.order[-1]
        self.order = self.order[:-1]
        return [gone]

    def shows(self):
        lamp, counted, turns = self.outcome()
        return [lamp, counted, int(self.is_said()), len(self.order)]

    def been(self):
        people = [p for p in range(1, self.numbers[0] + 1) if p in self.order]
        return [len(people), *people]

    def turned(self, p):
        return [self.outcome()[2].get(p, -2)]

    def answer(self, one):
        by_number = (self.cell, self.call, self.rounds, self.back, self.shows, self.been, self.turned)
        return by_number[one[0]](*one[1:])


def some_cell(dice):
    if dice.random() < 0.2:
        return [0] + [dice.choice((0, 1, 2, 20, 21, 400, 401, GREATEST)) for place in range(5)]
    return [0, dice.randint(2, 5), dice.randint(1, 3), dice.randint(1, 6), dice.randint(0, 1), dice.randint(0, 1)]


def some_call(dice):
    number = dice.choice((0, 1, 1, 1, 1, 1, 1, 1, 2, 3, 3, 4, 4, 5, 6, 6))
    if number == 0:
        return some_cell(dice)
    if number == 2:
        return [2, dice.choice((0, 1, 1, 2, 3, 101, GREATEST))]
    if number in (1, 6):
        return [number, dice.choice((1, 1, 1, 2, 2, 3, 4, 5, 6, 0, GREATEST))]
    return [number]


class AgainstTheModel(unittest.TestCase):
    def test_many_lines(self):
        dice = random.Random(1)
        for line in range(LINES):
            calls = [some_call(dice) for place in range(dice.randint(1, 40))]
            model = Model()
            with self.subTest(calls=calls):
                self.assertEqual(cut(answers(line_of(calls))), [model.answer(one) for one in calls])


if __name__ == "__main__":
    unittest.main()
