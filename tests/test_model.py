"""Many lines against a slow model that keeps only the order of calls and goes through it anew each time."""

import functools
import random
import unittest

from lampcell.cell import answers
from tests.helper import GREATEST, cut, line_of

LINES = 3000

# Each call's number, with 0 where it isn't refused and with each of its refusals: the lines hold all of these.
ANSWERED = ({(number, 0) for number in range(13)}
            | {(0, -1), (1, -2), (1, -9), (2, -1), (2, -9), (3, -7), (6, -2), (7, -6), (11, -6), (12, -9), (12, -6)})


def ways(known):
    """How the lamp may be at first."""
    return (0,) if known == 1 else (0, 1)


def play(lamp, left, wanted):
    """How many calls till so many more are counted, if nobody is called in vain; left is what each other one has."""
    left = list(left)
    calls = 0
    while wanted > 0:
        if lamp == 0:
            able = [place for place, turns in enumerate(left) if turns > 0]
            if not able:
                return None
            left[able[0]] = left[able[0]] - 1
        else:
            wanted = wanted - 1
        lamp = 1 - lamp
        calls = calls + 1
    return calls


@functools.lru_cache(None)
def fewest_wrong(n, t, c, known):
    """The fewest calls while the last person isn't called; None if it's never said so."""
    found = [play(lamp, [t] * (n - 2), c) for lamp in ways(known)]
    return min((calls for calls in found if calls is not None), default=None)


@functools.lru_cache(None)
def counted_by_rounds(n, t, known):
    """How many rounds have counted at the least when one of them changes nothing any more."""
    found = []
    for lamp in ways(known):
        off = 0
        on = [0] * (n - 1)
        before = None
        while before != (lamp, off, on):
            before = (lamp, off, list(on))
            off, lamp = off + lamp, 0
            for place in range(n - 1):
                if lamp == 0 and on[place] < t:
                    on[place] = on[place] + 1
                    lamp = 1
        found.append(off)
    return min(found)


@functools.lru_cache(None)
def sure_and_coming(n, t, known):
    return [c for c in range(1, counted_by_rounds(n, t, known) + 1) if fewest_wrong(n, t, c, known) is None]


class Model:
    def __init__(self):
        self.numbers = (3, 1, 2, 1, 0)
        self.order = []

    def outcome(self):
        """The lamp, how many are counted, and how often each has turned the lamp."""
        n, t, c, known, lamp = self.numbers
        off = 0
        on = {p: 0 for p in range(2, n + 1)}
        for p in self.order:
            if p == 1 and lamp == 1:
                lamp = 0
                off = off + 1
            elif p != 1 and lamp == 0 and on[p] < t:
                lamp = 1
                on[p] = on[p] + 1
        return lamp, off, {1: off, **on}

    def is_said(self):
        return self.outcome()[1] >= self.numbers[2]

    def cell(self, n, t, c, known, lamp):
        right = n in range(2, 21) and t in range(1, 21) and c in range(1, 401)
        if not right or (known, lamp) not in [(1, 0), (0, 0), (0, 1)]:
            return [-1]
        self.numbers = (n, t, c, known, lamp)
        self.order = []
        return [0]

    def call(self, p):
        if p not in range(1, self.numbers[0] + 1):
            return [-2]
        if self.is_said():
            return [-9]
        self.order = self.order + [p]
        return list(self.outcome()[:2])

    def rounds(self, k):
        if k > 100:
            return [-1]
        if self.is_said():
            return [-9]
        made = 0
        for p in list(range(1, self.numbers[0] + 1)) * k:
            if not self.is_said():
                self.order = self.order + [p]
                made = made + 1
        return [made, int(self.is_said())]

    def back(self):
        if not self.order:
            return [-7]
        gone = self.order[-1]
        self.order = self.order[:-1]
        return [gone]

    def shows(self):
        lamp, counted, turns = self.outcome()
        return [lamp, counted, int(self.is_said()), len(self.order)]

    def been(self):
        people = [p for p in range(1, self.numbers[0] + 1) if p in self.order]
        return [len(people), *people]

    def turned(self, p):
        return [self.outcome()[2].get(p, -2)]

    def right(self):
        if not self.is_said():
            return [-6]
        return [int(set(self.order) == set(range(1, self.numbers[0] + 1)))]

    def sure(self):
        return [int(fewest_wrong(*self.numbers[:4]) is None)]

    def comes(self):
        n, t, c, known, lamp = self.numbers
        return [int(c <= counted_by_rounds(n, t, known))]

    def c_that_do(self):
        n, t, c, known, lamp = self.numbers
        found = sure_and_coming(n, t, known)
        return [len(found), found[0], found[-1]] if found else [0, 0, 0]

    def wrong(self):
        calls = fewest_wrong(*self.numbers[:4])
        return [-6 if calls is None else calls]

    def soon(self):
        if self.is_said():
            return [-9]
        n, t, c, known, first = self.numbers
        lamp, counted, turns = self.outcome()
        calls = play(lamp, [t - turns[p] for p in range(2, n + 1)], c - counted)
        return [-6 if calls is None else calls]

    def answer(self, one):
        by_number = (self.cell, self.call, self.rounds, self.back, self.shows, self.been, self.turned, self.right,
                     self.sure, self.comes, self.c_that_do, self.wrong, self.soon)
        return by_number[one[0]](*one[1:])


def some_cell(dice):
    kind = dice.random()
    if kind < 0.2:
        return [0] + [dice.choice((0, 1, 2, 20, 21, 400, 401, GREATEST)) for place in range(5)]
    if kind < 0.3:
        return [0, dice.randint(2, 20), dice.randint(1, 20), dice.randint(1, 400), 0, dice.randint(0, 1)]
    return [0, dice.randint(2, 5), dice.randint(1, 3), dice.randint(1, 6), dice.randint(0, 1), dice.randint(0, 1)]


def some_call(dice):
    number = dice.choice((0, 0, 1, 1, 1, 1, 1, 1, 1, 1, 1, 2, 3, 3, 4, 5, 6, 7, 7, 8, 9, 10, 11, 12, 12))
    if number == 0:
        return some_cell(dice)
    if number == 2:
        return [2, dice.choice((0, 1, 1, 2, 3, 101, GREATEST))]
    if number in (1, 6):
        return [number, dice.choice((1, 1, 1, 2, 2, 3, 4, 5, 6, 0, GREATEST))]
    return [number]


class AgainstTheModel(unittest.TestCase):
    def test_many_lines(self):
        dice = random.Random(1)
        seen = set()
        for line in range(LINES):
            calls = [some_call(dice) for place in range(dice.randint(1, 40))]
            model = Model()
            expected = [model.answer(one) for one in calls]
            with self.subTest(calls=calls):
                self.assertEqual(cut(answers(line_of(calls))), expected)
            seen.update((one[0], min(told[0], 0)) for one, told in zip(calls, expected))
        self.assertEqual(seen, ANSWERED)


if __name__ == "__main__":
    unittest.main()
