"""Start times, conflicts, and the search for feasible plans and periods."""

from hoistmoves.limits import GREATEST_PERIOD


def move_times(line, plan):
    """Answer when each move of a lot starts, the first one at 0."""
    times = [0]
    for stay in plan:
        times.append(times[-1] + line.move_time + stay)
    return times


def moves_conflict(line, period, times, first, second):
    """Tell whether two moves with different numbers conflict, for whatever lots."""
    after = (times[second] - times[first]) % period
    before = (times[first] - times[second]) % period
    # A start at the same time needs no question of its own: a move takes a minute at least.
    return after < line.reach(first, second) or before < line.reach(second, first)


def last_move_fits(line, period, times):
    """Tell whether the last of these moves conflicts with none ahead of it."""
    last = len(times) - 1
    for move in range(last):
        if moves_conflict(line, period, times, move, last):
            return False
    return True


def hoist_keeps_up(line, period):
    """Tell whether the hoist is back for the same move of the next lot in time."""
    return line.reach(0, 0) <= period


def stays_allowed(line, period, plan):
    """Tell whether every stay is within its pit's limits and less than the period."""
    for stay, window in zip(plan, line.pits):
        least, most = window
        if stay < least or stay > most or stay >= period:
            return False
    return True


def plan_feasible(line, period, plan):
    """Tell whether a plan with one stay per pit is feasible for the period."""
    if not hoist_keeps_up(line, period) or not stays_allowed(line, period, plan):
        return False
    times = move_times(line, plan)
    return all([last_move_fits(line, period, times[:count]) for count in range(2, len(times) + 1)])


def first_plan_from(line, period, plan):
    """Answer the first plan that begins with these stays and has no conflict, or None.

    A conflict of the moves so far stays one whatever follows, so no such beginning is gone on with.
    """
    if len(plan) == len(line.pits):
        return plan
    least, most = line.pits[len(plan)]
    for stay in range(least, min(most, period - 1) + 1):
        longer = plan + [stay]
        if last_move_fits(line, period, move_times(line, longer)):
            found = first_plan_from(line, period, longer)
            if found is not None:
                return found
    return None


def find_first_plan(line, period):
    """Answer the first feasible plan for the period, or None."""
    if not hoist_keeps_up(line, period):
        return None
    return first_plan_from(line, period, [])


def find_shortest_period(line):
    """Answer the shortest period with a feasible plan, or None."""
    for period in range(1, GREATEST_PERIOD + 1):
        if find_first_plan(line, period) is not None:
            return period
    return None
