"""The ranges of what is handed in, and the error codes."""

NO_LINE = -11
NO_SUCH_PIT = -2
OUT_OF_LIMITS = -22
TOO_MANY_PITS = -28
NONE_FOUND = -33

GREATEST_PIT_COUNT = 4
GREATEST_MOVE_TIME = 9
GREATEST_EMPTY_TIME = 4
GREATEST_LIMIT = 30
WIDEST_WINDOW = 8
GREATEST_PERIOD = 99
GREATEST_STAY = 99
GREATEST_LOTS = 99


def is_window(least, most):
    """Tell whether these two may be the limits for a stay."""
    return 1 <= least <= most <= GREATEST_LIMIT and most <= least + WIDEST_WINDOW


def is_speed(move_time, empty_time):
    """Tell whether a hoist may have these two times."""
    return 1 <= move_time <= GREATEST_MOVE_TIME and 0 <= empty_time <= GREATEST_EMPTY_TIME


def is_period(period):
    """Tell whether lots may be started this many minutes apart."""
    return 1 <= period <= GREATEST_PERIOD


def is_lots(lots):
    """Tell whether so many lots may be asked about."""
    return 1 <= lots <= GREATEST_LOTS


def is_plan(plan, pit_count):
    """Tell whether this is a plan for so many pits, feasible or not."""
    return len(plan) == pit_count and all([0 <= stay <= GREATEST_STAY for stay in plan])
