"""Calls written by name, and answers cut up into one list a call."""

from lampcell.cell import answers

GREATEST = 4294967295

BACK = [3]
SHOWS = [4]
BEEN = [5]
RIGHT = [7]
SURE = [8]
COMES = [9]
NUMBERS = [10]
WRONG = [11]
SOON = [12]
ASKED = [RIGHT, SURE, COMES, NUMBERS, WRONG, SOON]


def cell(n, t, c, known, lamp):
    return [0, n, t, c, known, lamp]


def call(p):
    return [1, p]


def rounds(k):
    return [2, k]


def turned(p):
    return [6, p]


def line_of(calls):
    return [number for one in calls for number in one]


def cut(told):
    lists = []
    start = 0
    while start < len(told):
        end = start + 1 + told[start]
        lists.append(told[start + 1:end])
        start = end
    if start != len(told):
        raise ValueError("the last answer is shorter than told")
    return lists


def ask(*calls):
    lists = cut(answers(line_of(calls)))
    if len(lists) != len(calls):
        raise ValueError("there are not as many answers as calls")
    return lists


def last(*calls):
    return ask(*calls)[-1]


def look(people):
    """Calls that together show all that can be asked of a cell with so many people."""
    return [SHOWS, BEEN] + [turned(p) for p in range(1, people + 2)] + ASKED


def state(people, *calls):
    """What look answers behind these calls."""
    return ask(*calls, *look(people))[len(calls):]
