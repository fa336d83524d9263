"""The calls of one line, read one behind another, and what each of them answers."""

from lampcell.goals import greatest_coming, least_sure
from lampcell.state import Cell

CELL = 0
CALL = 1
ROUNDS = 2
BACK = 3
SHOWS = 4
BEEN = 5
TURNED = 6
RIGHT = 7
SURE = 8
COMES = 9
NUMBERS = 10
WRONG = 11

# How many numbers stand behind each call's own number, from 0 (cell) to 12 (soon).
WIDTHS = (5, 1, 1, 0, 0, 0, 1, 0, 0, 0, 0, 0, 0)

OUT_OF_BOUNDS = -1
NO_SUCH_PERSON = -2
NOT_SAID = -6
NOBODY_CALLED = -7
ALREADY_SAID = -9

MOST_PEOPLE = 20
MOST_TIMES = 20
MOST_GOAL = 400
MOST_ROUNDS = 100


def as_number(truth):
    return 1 if truth else 0


def within(number, least, greatest):
    return number >= least and number <= greatest


def cell_fits(people, times, goal, known, lamp):
    if not within(people, 2, MOST_PEOPLE):
        return False
    if not within(times, 1, MOST_TIMES):
        return False
    if not within(goal, 1, MOST_GOAL):
        return False
    if known > 1 or lamp > 1:
        return False
    return known == 0 or lamp == 0


def answer_cell(cell, people, times, goal, known, lamp):
    if not cell_fits(people, times, goal, known, lamp):
        return [OUT_OF_BOUNDS]
    cell.begin(people, times, goal, known, lamp)
    return [0]


def answer_call(cell, person):
    if not cell.has_person(person):
        return [NO_SUCH_PERSON]
    if cell.said():
        return [ALREADY_SAID]
    cell.visit(person)
    return [cell.lamp, cell.counted()]


def answer_rounds(cell, rounds):
    if rounds > MOST_ROUNDS:
        return [OUT_OF_BOUNDS]
    if cell.said():
        return [ALREADY_SAID]
    made = cell.go_round(rounds)
    return [made, as_number(cell.said())]


def answer_back(cell):
    if len(cell.visits) == 0:
        return [NOBODY_CALLED]
    return [cell.undo()]


def answer_shows(cell):
    return [cell.lamp, cell.counted(), as_number(cell.said()), len(cell.visits)]


def answer_been(cell):
    people = cell.been()
    return [len(people)] + people


def answer_turned(cell, person):
    if not cell.has_person(person):
        return [NO_SUCH_PERSON]
    return [cell.turns[person]]


def answer_right(cell):
    if not cell.said():
        return [NOT_SAID]
    return [as_number(cell.all_been())]


def answer_sure(cell):
    return [as_number(cell.is_sure())]


def answer_comes(cell):
    return [as_number(cell.is_coming())]


def answer_numbers(cell):
    least = least_sure(cell.people, cell.times, cell.known)
    greatest = greatest_coming(cell.people, cell.times)
    if least > greatest:
        return [0, 0, 0]
    return [greatest - least + 1, least, greatest]


def answer_wrong(cell):
    if cell.is_sure():
        return [NOT_SAID]
    return [cell.fewest_till_wrong()]


def answer_soon(cell):
    if cell.said():
        return [ALREADY_SAID]
    if not cell.can_be_said():
        return [NOT_SAID]
    return [cell.fewest_till_said()]


def answer(cell, number, given):
    """What the call with this number answers; given is what stands behind that number."""
    if number == CELL:
        return answer_cell(cell, given[0], given[1], given[2], given[3], given[4])
    if number == CALL:
        return answer_call(cell, given[0])
    if number == ROUNDS:
        return answer_rounds(cell, given[0])
    if number == BACK:
        return answer_back(cell)
    if number == SHOWS:
        return answer_shows(cell)
    if number == BEEN:
        return answer_been(cell)
    if number == TURNED:
        return answer_turned(cell, given[0])
    if number == RIGHT:
        return answer_right(cell)
    if number == SURE:
        return answer_sure(cell)
    if number == COMES:
        return answer_comes(cell)
    if number == NUMBERS:
        return answer_numbers(cell)
    if number == WRONG:
        return answer_wrong(cell)
    # What is left is soon: WIDTHS knows no number beyond it.
    return answer_soon(cell)


def answers(calls):
    """The answers to all calls of one line: for each how many numbers it answers, then these."""
    cell = Cell()
    told = []
    start = 0
    while start < len(calls):
        number = calls[start]
        end = start + 1 + WIDTHS[number]
        numbers = answer(cell, number, calls[start + 1:end])
        told.append(len(numbers))
        told.extend(numbers)
        start = end
    return told
