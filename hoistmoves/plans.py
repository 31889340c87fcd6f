"""Start times, conflicts, and the search for feasible plans and periods."""

from hoistmoves.limits import GREATEST_PERIOD


def move_times(line, plan):
    """Answer when each move of a lot starts, the first one at 0."""
    times = [0]
    for stay in plan:
        times.append(times[-1] + line.move_time + stay)
    return times


def stays_between(line, times):
    """Answer the plan by which the moves start at these times."""
    return [times[move + 1] - times[move] - line.move_time for move in range(len(times) - 1)]


def allowed_gap(line, period, first, second):
    """Answer how soon and how late, modulo the period, the second move starts without a conflict.

    Behind it the rest of the period is left until the first move starts again. A start at the same
    time needs no question of its own: it is too soon, for a move takes a minute at least.
    """
    return line.reach(first, second), period - line.reach(second, first)


def moves_conflict(line, period, times, first, second):
    """Tell whether two moves with different numbers conflict, for whatever lots."""
    nearest, farthest = allowed_gap(line, period, first, second)
    return not nearest <= (times[second] - times[first]) % period <= farthest


def hoist_keeps_up(line, period):
    """Tell whether the hoist is back for the same move of the next lot in time."""
    return line.reach(0, 0) <= period


def stays_allowed(line, period, plan):
    """Tell whether every stay is within its pit's limits and less than the period."""
    for stay, window in zip(plan, line.pits):
        least, most = window
        if stay < least or stay > most or stay >= period:
            return False
    return True


def plan_feasible(line, period, plan):
    """Tell whether a plan with one stay per pit is feasible for the period."""
    if not hoist_keeps_up(line, period) or not stays_allowed(line, period, plan):
        return False
    return find_first_conflict(line, period, plan) is None


def find_first_conflict(line, period, plan):
    """Answer the first pair of moves that conflict, whatever the limits for stays, or None."""
    times = move_times(line, plan)
    for first in range(len(times)):
        for second in range(first + 1, len(times)):
            if moves_conflict(line, period, times, first, second):
                return [first, second]
    return None


def next_starts(line, period, times):
    """Answer when the move behind these may start, by the limits of its pit and without a conflict."""
    least, most = line.pits[len(times) - 1]
    arrival = times[-1] + line.move_time
    starts = [arrival + stay for stay in range(least, min(most, period - 1) + 1)]
    for move, begun in enumerate(times):
        nearest, farthest = allowed_gap(line, period, move, len(times))
        starts = [start for start in starts if nearest <= (start - begun) % period <= farthest]
    return starts


def first_times_from(line, period, times):
    """Answer the starts of all moves by the first plan that begins with these ones, or None.

    A conflict of the moves so far stays one whatever follows, so no such beginning is gone on with.
    """
    if len(times) > len(line.pits):
        return times
    for start in next_starts(line, period, times):
        found = first_times_from(line, period, times + [start])
        if found is not None:
            return found
    return None


def count_plans_from(line, period, times):
    """Count the plans without a conflict by which the moves begin with these starts."""
    if len(times) > len(line.pits):
        return 1
    return sum([count_plans_from(line, period, times + [start]) for start in next_starts(line, period, times)])


def find_first_plan(line, period):
    """Answer the first feasible plan for the period, or None."""
    if not hoist_keeps_up(line, period):
        return None
    times = first_times_from(line, period, [0])
    if times is None:
        return None
    return stays_between(line, times)


def count_plans(line, period):
    """Count the feasible plans for the period."""
    if not hoist_keeps_up(line, period):
        return 0
    return count_plans_from(line, period, [0])


def find_shortest_period(line):
    """Answer the shortest period with a feasible plan, or None."""
    for period in range(1, GREATEST_PERIOD + 1):
        if find_first_plan(line, period) is not None:
            return period
    return None


def find_feasible_periods(line):
    """Answer all periods with a feasible plan, the shortest first."""
    return [period for period in range(1, GREATEST_PERIOD + 1) if find_first_plan(line, period) is not None]


def time_through(line, plan):
    """Answer the minutes from the start of a lot's first move to the end of its last one."""
    return move_times(line, plan)[-1] + line.move_time


def pits_occupied(line, period, plan, minute):
    """Count the pits that hold a lot in this minute of every period.

    A stay is less than the period, so a pit never holds the lot of more than one period.
    """
    count = 0
    for start, stay in zip(move_times(line, plan), plan):
        # A pit is free from the very start of the move that takes its lot away.
        if (minute - (start + line.move_time)) % period < stay:
            count += 1
    return count


def most_occupied(line, period, plan):
    """Answer the greatest number of pits that hold a lot in the same minute, in the long run."""
    return max([pits_occupied(line, period, plan, minute) for minute in range(period)])
