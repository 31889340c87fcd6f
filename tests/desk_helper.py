"""What the tests share: calls by their names, and the document's definitions written out anew.

The definitions here are taken from the text of the document with lots that are started one after
another, not from the program and not from the remainders by which the program tells conflicts.
"""

from itertools import product

from hoistmoves.desk import answers

NO_LINE = -11
NO_SUCH_PIT = -2
OUT_OF_LIMITS = -22
TOO_MANY_PITS = -28
NONE_FOUND = -33

GREATEST = 4294967295
MOST_CALLS = 60
PERIODS = range(1, 100)


def call(operation, *numbers):
    return [operation, len(numbers), *numbers, 0]


def create(move_time, empty_time):
    return call(0, move_time, empty_time)


def add_pit(least, most):
    return call(1, least, most)


def remove_pit(pit):
    return call(2, pit)


def set_window(pit, least, most):
    return call(3, pit, least, most)


def set_speed(move_time, empty_time):
    return call(4, move_time, empty_time)


def get_pit(pit):
    return call(5, pit)


def shortest_period():
    return call(6)


def first_plan(period):
    return call(7, period)


def start_times(period):
    return call(8, period)


def is_feasible(period, plan):
    return call(9, period, *plan)


def run(calls):
    """Hand in the calls as one list, and answer a list of numbers for each."""
    handed_in = [number for one in calls for number in one]
    given_back = answers(handed_in)
    results = []
    position = 0
    while position < len(given_back):
        count = given_back[position]
        results.append(given_back[position + 1 : position + 1 + count])
        assert len(results[-1]) == count, given_back
        position += 1 + count
    assert len(results) == len(calls), given_back
    return results


def line_calls(line):
    """The calls that make a line, told as (move_time, empty_time, windows)."""
    move_time, empty_time, windows = line
    return [create(move_time, empty_time)] + [add_pit(least, most) for least, most in windows]


def ask(line, questions):
    """The answers to questions about a line, in lists of no more calls than are allowed."""
    setup = line_calls(line)
    room = MOST_CALLS - len(setup)
    results = []
    for start in range(0, len(questions), room):
        results += run(setup + questions[start : start + room])[len(setup) :]
    return results


def starts_by(line, plan):
    return [sum(plan[:move]) + move * line[0] for move in range(len(plan) + 1)]


def clash(line, earlier, later):
    """Tell whether the hoist can't do both of two (start, move), the later one behind the earlier."""
    move_time, empty_time, windows = line
    way = abs(later[1] - (earlier[1] + 1))
    return later[0] < earlier[0] + move_time + empty_time * way


def hoist_free(line, period, plan):
    """Tell, start by start, whether the hoist can do all moves of all lots with different numbers."""
    starts = starts_by(line, plan)
    lots = starts[-1] // period + 20
    for move, start in enumerate(starts):
        for other, other_start in enumerate(starts):
            if other == move:
                continue
            for lot in range(-lots, lots + 1):
                late = other_start + lot * period
                if late >= start and clash(line, (start, move), (late, other)):
                    return False
    return True


def feasible(line, period, plan):
    move_time, empty_time, windows = line
    if move_time + empty_time > period:
        return False
    for stay, (least, most) in zip(plan, windows):
        if not (least <= stay <= most and stay < period):
            return False
    return hoist_free(line, period, plan)


def feasible_plans(line, period):
    """Every feasible plan, in their order."""
    choices = [range(least, most + 1) for least, most in line[2]]
    return [list(plan) for plan in product(*choices) if feasible(line, period, plan)]
