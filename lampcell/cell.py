"""The calls of one line, read one behind another, and what each of them answers."""

from lampcell.state import Cell

CELL = 0
CALL = 1
ROUNDS = 2
BACK = 3
SHOWS = 4
BEEN = 5

# How many numbers stand behind each call's own number, from 0 (cell) to 6 (turned).
WIDTHS = (5, 1, 1, 0, 0, 0, 1)

OUT_OF_BOUNDS = -1
NO_SUCH_PERSON = -2
NOBODY_CALLED = -7
ALREADY_SAID = -9

MOST_PEOPLE = 20
MOST_TIMES = 20
MOST_GOAL = 400
MOST_ROUNDS = 100


def as_number(truth):
    return 1 if truth else 0


def within(number, least, greatest):
    return number >= least and number <= greatest


def cell_fits(people, times, goal, known, lamp):
    if not within(people, 2, MOST_PEOPLE):
        return False
    if not within(times, 1, MOST_TIMES):
        return False
    if not within(goal, 1, MOST_GOAL):
        return False
    if known > 1 or lamp > 1:
        return False
    return known == 0 or lamp == 0


def answer_cell(cell, people, times, goal, known, lamp):
    if not cell_fits(people, times, goal, known, lamp):
        return [OUT_OF_BOUNDS]
    cell.begin(people, times, goal, known, lamp)
    return [0]


def answer_call(cell, person):
    if not cell.has_person(person):
        return [NO_SUCH_PERSON]
    if cell.said():
        return [ALREADY_SAID]
    cell.visit(person)
    return [cell.lamp, cell.counted()]


def answer_rounds(cell, rounds):
    if rounds > MOST_ROUNDS:
        return [OUT_OF_BOUNDS]
    if cell.said():
        return [ALREADY_SAID]
    made = cell.go_round(rounds)
    return [made, as_number(cell.said())]


def answer_back(cell):
    if len(cell.visits) == 0:
        return [NOBODY_CALLED]
    return [cell.undo()]


def answer_shows(cell):
    return [cell.lamp, cell.counted(), as_number(cell.said()), len(cell.visits)]


def answer_been(cell):
    people = cell.been()
    return [len(people)] + people


def answer_turned(cell, person):
    if not cell.has_person(person):
        return [NO_SUCH_PERSON]
    return [cell.turns[person]]


def answer(cell, number, given):
    """What the call with this number answers; given is what stands behind that number."""
    if number == CELL:
        return answer_cell(cell, given[0], given[1], given[2], given[3], given[4])
    if number == CALL:
        return answer_call(cell, given[0])
    if number == ROUNDS:
        return answer_rounds(cell, given[0])
    if number == BACK:
        return answer_back(cell)
    if number == SHOWS:
        return answer_shows(cell)
    if number == BEEN:
        return answer_been(cell)
    # What is left is turned: WIDTHS knows no number beyond it.
    return answer_turned(cell, given[0])


def answers(calls):
    """The answers to all calls of one line: for each how many numbers it answers, then these."""
    cell = Cell()
    told = []
    start = 0
    while start < len(calls):
        number = calls[start]
        end = start + 1 + WIDTHS[number]
        numbers = answer(cell, number, calls[start + 1:end])
        told.append(len(numbers))
        told.extend(numbers)
        start = end
    return told
