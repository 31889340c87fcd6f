"""The operations: each takes the line and its numbers, and answers a list of numbers."""

from hoistmoves.limits import GREATEST_PIT_COUNT, NO_LINE, NO_SUCH_PIT, NONE_FOUND, OUT_OF_LIMITS, TOO_MANY_PITS
from hoistmoves.limits import is_lots, is_period, is_plan, is_speed, is_window
from hoistmoves.line import Line
from hoistmoves.plans import count_plans, find_feasible_periods, find_first_conflict, find_first_plan
from hoistmoves.plans import find_shortest_period, most_occupied, move_times, plan_feasible, time_through

CREATE = 0


class State:
    """What is kept from one call to the next: the line, or None while there is none."""

    def __init__(self):
        self.line = None


def create(state, numbers):
    """Begin a line without pits, in the place of an existing one."""
    move_time, empty_time = numbers
    if not is_speed(move_time, empty_time):
        return [OUT_OF_LIMITS]
    state.line = Line(move_time, empty_time)
    return [0]


def add_pit(line, numbers):
    """Append a pit and answer its number."""
    least, most = numbers
    if not is_window(least, most):
        return [OUT_OF_LIMITS]
    if len(line.pits) == GREATEST_PIT_COUNT:
        return [TOO_MANY_PITS]
    line.pits.append((least, most))
    return [len(line.pits) - 1]


def remove_pit(line, numbers):
    """Remove a pit and answer how many remain."""
    pit = numbers[0]
    if not line.has_pit(pit):
        return [NO_SUCH_PIT]
    line.pits.pop(pit)
    return [len(line.pits)]


def set_window(line, numbers):
    """Change the limits of a pit and answer 0 and the previous ones."""
    pit, least, most = numbers
    if not line.has_pit(pit):
        return [NO_SUCH_PIT]
    if not is_window(least, most):
        return [OUT_OF_LIMITS]
    old_least, old_most = line.pits[pit]
    line.pits[pit] = (least, most)
    return [0, old_least, old_most]


def set_speed(line, numbers):
    """Change the times of the hoist and answer 0 and the previous ones."""
    move_time, empty_time = numbers
    if not is_speed(move_time, empty_time):
        return [OUT_OF_LIMITS]
    answer = [0, line.move_time, line.empty_time]
    line.move_time = move_time
    line.empty_time = empty_time
    return answer


def get_pit(line, numbers):
    """Answer the limits of a pit."""
    pit = numbers[0]
    if not line.has_pit(pit):
        return [NO_SUCH_PIT]
    return list(line.pits[pit])


def shortest_period(line, numbers):
    """Answer the shortest period with a feasible plan."""
    period = find_shortest_period(line)
    if period is None:
        return [NONE_FOUND]
    return [period]


def answer_by_first_plan(line, period, measure):
    """Answer what measure makes of the first plan, or the refusal that there is none."""
    if not is_period(period):
        return [OUT_OF_LIMITS]
    plan = find_first_plan(line, period)
    if plan is None:
        return [NONE_FOUND]
    return measure(plan)


def first_plan(line, numbers):
    """Answer the number of pits and the first plan for a period."""
    return answer_by_first_plan(line, numbers[0], lambda plan: [len(plan)] + plan)


def start_times(line, numbers):
    """Answer the number of moves and when each starts by the first plan."""
    return answer_by_first_plan(line, numbers[0], lambda plan: [len(plan) + 1] + move_times(line, plan))


def answer_on_plan(line, numbers, judge):
    """Answer what judge makes of the period and the plan behind it, or the refusal of one of them."""
    period = numbers[0]
    plan = numbers[1:]
    if not is_period(period) or not is_plan(plan, len(line.pits)):
        return [OUT_OF_LIMITS]
    return judge(line, period, plan)


def judge_feasible(line, period, plan):
    """Answer 1 for a feasible plan, otherwise 0."""
    return [1 if plan_feasible(line, period, plan) else 0]


def is_feasible(line, numbers):
    """Answer 1 if the plan behind the period is feasible, otherwise 0."""
    return answer_on_plan(line, numbers, judge_feasible)


def judge_conflict(line, period, plan):
    """Answer the first two moves that conflict, or the refusal that no two do."""
    pair = find_first_conflict(line, period, plan)
    if pair is None:
        return [NONE_FOUND]
    return pair


def first_conflict(line, numbers):
    """Answer the first two moves that conflict by the plan behind the period."""
    return answer_on_plan(line, numbers, judge_conflict)


def plan_count(line, numbers):
    """Answer the number of feasible plans for a period."""
    period = numbers[0]
    if not is_period(period):
        return [OUT_OF_LIMITS]
    return [count_plans(line, period)]


def throughput_time(line, numbers):
    """Answer how long a lot is on the line by the first plan."""
    return answer_by_first_plan(line, numbers[0], lambda plan: [time_through(line, plan)])


def max_occupied(line, numbers):
    """Answer the greatest number of pits that hold a lot at the same time by the first plan."""
    period = numbers[0]
    return answer_by_first_plan(line, period, lambda plan: [most_occupied(line, period, plan)])


def completion_time(line, numbers):
    """Answer how long it takes by the first plan until so many lots have left."""
    period, lots = numbers
    if not is_lots(lots):
        return [OUT_OF_LIMITS]
    return answer_by_first_plan(line, period, lambda plan: [(lots - 1) * period + time_through(line, plan)])


def shortest_period_with(line, change, numbers):
    """Answer the shortest period behind a change, or the change's refusal, and leave the line as it is."""
    trial = line.twin()
    answer = change(trial, numbers)
    if answer[0] != 0:
        return answer
    return shortest_period(trial, [])


def shortest_period_with_window(line, numbers):
    """Answer the shortest period if a pit had these limits."""
    return shortest_period_with(line, set_window, numbers)


def shortest_period_with_speed(line, numbers):
    """Answer the shortest period if the hoist had these times."""
    return shortest_period_with(line, set_speed, numbers)


def feasible_periods(line, numbers):
    """Answer how many periods have a feasible plan, and which."""
    periods = find_feasible_periods(line)
    return [len(periods)] + periods


def status(line, numbers):
    """Answer the number of pits, the times of the hoist, and a bound for the period."""
    return [len(line.pits), line.move_time, line.empty_time, line.bound()]


OPERATIONS = {
    1: add_pit,
    2: remove_pit,
    3: set_window,
    4: set_speed,
    5: get_pit,
    6: shortest_period,
    7: first_plan,
    8: start_times,
    9: is_feasible,
    10: first_conflict,
    11: plan_count,
    12: throughput_time,
    13: max_occupied,
    14: completion_time,
    15: shortest_period_with_window,
    16: shortest_period_with_speed,
    17: feasible_periods,
    18: status,
}


def perform(state, operation, numbers):
    """Do one operation and answer its numbers, or its error code alone."""
    if operation == CREATE:
        return create(state, numbers)
    if state.line is None:
        return [NO_LINE]
    return OPERATIONS[operation](state.line, numbers)
