"""What the tests share: calls by their names, and the document's definitions written out anew.

The definitions here are taken from the text of the document with lots that are started one after
another, not from the program and not from the remainders by which the program tells conflicts.
"""

from itertools import combinations, permutations, product

from hoistmoves.desk import answers

NO_LINE = -11
NO_SUCH_PIT = -2
OUT_OF_LIMITS = -22
TOO_MANY_PITS = -28
NONE_FOUND = -33

GREATEST = 4294967295
MOST_CALLS = 60
PERIODS = range(1, 100)
BAD_PERIODS = (0, 100, 101, 1000, 2147483648, GREATEST - 1, GREATEST)
FAR = (GREATEST - 1, GREATEST, 2147483647, 2147483648, 65536, 1000)
GOOD_SPEEDS = [(1, 0), (1, 4), (9, 0), (9, 4), (5, 2)]
BAD_SPEEDS = [(0, 0), (0, 4), (10, 0), (10, 4), (1, 5), (9, 5), (0, 5), (10, 5)]
BAD_SPEEDS += [(far, 0) for far in FAR] + [(1, far) for far in FAR] + [(far, far) for far in FAR]
GOOD_WINDOWS = [(1, 1), (1, 9), (30, 30), (29, 30), (22, 30), (5, 5), (5, 13), (13, 21)]
BAD_WINDOWS = [(0, 0), (0, 1), (0, 8), (2, 1), (30, 29), (1, 10), (5, 14), (21, 30), (1, 30)]
BAD_WINDOWS += [(30, 31), (31, 31), (23, 31), (22, 31), (5, 0), (31, 30)]
BAD_WINDOWS += [(far, 5) for far in FAR] + [(5, far) for far in FAR] + [(far, far) for far in FAR]
BAD_WINDOWS += [(GREATEST - 8, GREATEST), (GREATEST, 0), (0, GREATEST)]

# Lines are told as (move_time, empty_time, windows).
EXAMPLE = (2, 1, [(5, 8), (3, 10)])
# By the plan 13, 12, 26 the last move ends at 83, and the way back from the last place takes 16.
AT_LONGEST = (8, 4, [(13, 13), (12, 14), (26, 26)])
# The same with a stay of a minute more, which only a period of 100 would have room for.
JUST_BEYOND = (8, 4, [(13, 13), (12, 14), (27, 27)])
# One lot and the way back take 112 minutes at the least, and no other lot can be carried meanwhile.
BEYOND_LONGEST = (8, 4, [(27, 30), (16, 18), (21, 21)])
FOUR = (3, 1, [(4, 12), (10, 18), (6, 14), (9, 17)])


def call(operation, *numbers):
    return [operation, len(numbers), *numbers, 0]


def create(move_time, empty_time):
    return call(0, move_time, empty_time)


def add_pit(least, most):
    return call(1, least, most)


def remove_pit(pit):
    return call(2, pit)


def set_window(pit, least, most):
    return call(3, pit, least, most)


def set_speed(move_time, empty_time):
    return call(4, move_time, empty_time)


def get_pit(pit):
    return call(5, pit)


def shortest_period():
    return call(6)


def first_plan(period):
    return call(7, period)


def start_times(period):
    return call(8, period)


def is_feasible(period, plan):
    return call(9, period, *plan)


def first_conflict(period, plan):
    return call(10, period, *plan)


def plan_count(period):
    return call(11, period)


def throughput_time(period):
    return call(12, period)


def max_occupied(period):
    return call(13, period)


def completion_time(period, lots):
    return call(14, period, lots)


def shortest_period_with_window(pit, least, most):
    return call(15, pit, least, most)


def shortest_period_with_speed(move_time, empty_time):
    return call(16, move_time, empty_time)


def feasible_periods():
    return call(17)


def status():
    return call(18)


def run(calls):
    """Hand in the calls as one list, and answer a list of numbers for each."""
    handed_in = [number for one in calls for number in one]
    given_back = answers(handed_in)
    results = []
    position = 0
    while position < len(given_back):
        count = given_back[position]
        results.append(given_back[position + 1 : position + 1 + count])
        assert len(results[-1]) == count, given_back
        position += 1 + count
    assert len(results) == len(calls), given_back
    return results


def line_calls(line):
    """The calls that make a line."""
    move_time, empty_time, windows = line
    return [create(move_time, empty_time)] + [add_pit(least, most) for least, most in windows]


def ask(line, questions):
    """The answers to questions about a line, in lists of no more calls than are allowed."""
    setup = line_calls(line)
    room = MOST_CALLS - len(setup)
    results = []
    for start in range(0, len(questions), room):
        results += run(setup + questions[start : start + room])[len(setup) :]
    return results


def answer(line, question):
    return ask(line, [question])[0]


def starts_by(line, plan):
    return [sum(plan[:move]) + move * line[0] for move in range(len(plan) + 1)]


def clash(line, earlier, later):
    """Tell whether the hoist can't do both of two (start, move), the later one behind the earlier."""
    move_time, empty_time, windows = line
    way = abs(later[1] - (earlier[1] + 1))
    return later[0] < earlier[0] + move_time + empty_time * way


def in_the_way(line, period, starts, move, other):
    """Tell, lot by lot, whether the hoist can't do a move and the other one of some lot behind it."""
    lots = starts[-1] // period + 20
    for lot in range(-lots, lots + 1):
        late = starts[other] + lot * period
        if late >= starts[move] and clash(line, (starts[move], move), (late, other)):
            return True
    return False


def conflicts(line, period, plan):
    """Every pair of moves that conflict, in their order."""
    starts = starts_by(line, plan)
    return [
        [move, other]
        for move, other in combinations(range(len(starts)), 2)
        if in_the_way(line, period, starts, move, other) or in_the_way(line, period, starts, other, move)
    ]


def hoist_free(line, period, plan):
    """Tell whether the hoist can do all moves of all lots with different numbers."""
    starts = starts_by(line, plan)
    pairs = permutations(range(len(starts)), 2)
    return not any(in_the_way(line, period, starts, move, other) for move, other in pairs)


def feasible(line, period, plan):
    move_time, empty_time, windows = line
    if move_time + empty_time > period:
        return False
    for stay, (least, most) in zip(plan, windows):
        if not (least <= stay <= most and stay < period):
            return False
    return hoist_free(line, period, plan)


def feasible_plans(line, period):
    """Every feasible plan, in their order."""
    choices = [range(least, most + 1) for least, most in line[2]]
    return [list(plan) for plan in product(*choices) if feasible(line, period, plan)]


def occupied_in_the_long_run(line, period, plan):
    """The greatest number of pits with a lot in them, in a period that many lots go ahead of."""
    starts = starts_by(line, plan)
    lots = starts[-1] // period + 2
    counts = []
    for minute in range(lots * period, (lots + 1) * period):
        held = set()
        for lot in range(lots + 1):
            for pit in range(len(plan)):
                if lot * period + starts[pit] + line[0] <= minute < lot * period + starts[pit + 1]:
                    held.add(pit)
        counts.append(len(held))
    return max(counts)


def bound_by_the_words(line):
    move_time, empty_time, windows = line
    terms = [move_time + empty_time, (len(windows) + 1) * move_time]
    return max(terms + [least + 2 * move_time + 2 * empty_time for least, most in windows])
