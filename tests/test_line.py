"""The calls that make and change a line: create to get_pit."""

import unittest

from desk_helper import (
    BAD_SPEEDS,
    BAD_WINDOWS,
    FAR,
    GOOD_SPEEDS,
    GOOD_WINDOWS,
    GREATEST,
    NO_LINE,
    NO_SUCH_PIT,
    OUT_OF_LIMITS,
    TOO_MANY_PITS,
    add_pit,
    completion_time,
    create,
    feasible_periods,
    first_conflict,
    first_plan,
    get_pit,
    is_feasible,
    max_occupied,
    plan_count,
    remove_pit,
    run,
    set_speed,
    set_window,
    shortest_period,
    shortest_period_with_speed,
    shortest_period_with_window,
    start_times,
    status,
    throughput_time,
)

PITS = [(1, 9), (5, 5), (22, 30), (30, 30)]
MAKE = [create(7, 3)] + [add_pit(least, most) for least, most in PITS]


def last(calls):
    return run(calls)[-1]


def state_behind(calls):
    """The windows of all pits and the speed, as they are behind these calls."""
    results = run(calls + [get_pit(pit) for pit in range(5)] + [set_speed(1, 0)])[len(calls) :]
    windows = [tuple(result) for result in results[:-1] if result != [NO_SUCH_PIT]]
    return windows, tuple(results[-1][1:])


class NoLine(unittest.TestCase):
    def test_every_other_call_is_refused(self):
        others = [
            add_pit(5, 8),
            remove_pit(0),
            set_window(0, 5, 8),
            set_speed(2, 1),
            get_pit(0),
            shortest_period(),
            first_plan(11),
            start_times(11),
            is_feasible(11, []),
            first_conflict(11, []),
            plan_count(11),
            throughput_time(11),
            max_occupied(11),
            completion_time(11, 1),
            shortest_period_with_window(0, 5, 8),
            shortest_period_with_speed(2, 1),
            feasible_periods(),
            status(),
        ]
        self.assertEqual(run(others), [[NO_LINE]] * len(others))

    def test_ahead_of_every_other_check(self):
        others = [
            add_pit(0, GREATEST),
            remove_pit(GREATEST),
            set_window(GREATEST, 0, GREATEST),
            set_speed(0, 5),
            get_pit(GREATEST),
            first_plan(0),
            first_plan(100),
            start_times(0),
            start_times(GREATEST),
            is_feasible(0, []),
            is_feasible(11, [100]),
            is_feasible(GREATEST, [GREATEST] * 6),
            first_conflict(0, []),
            first_conflict(11, [100]),
            first_conflict(GREATEST, [GREATEST] * 6),
            plan_count(0),
            plan_count(GREATEST),
            throughput_time(0),
            max_occupied(100),
            completion_time(0, 0),
            completion_time(GREATEST, GREATEST),
            shortest_period_with_window(GREATEST, 0, GREATEST),
            shortest_period_with_speed(0, 5),
        ]
        self.assertEqual(run(others), [[NO_LINE]] * len(others))

    def test_refused_create_leaves_none(self):
        self.assertEqual(run([create(0, 0), get_pit(0)]), [[OUT_OF_LIMITS], [NO_LINE]])
        self.assertEqual(run([add_pit(1, 1), create(1, 0), get_pit(0)]), [[NO_LINE], [0], [NO_SUCH_PIT]])


class Create(unittest.TestCase):
    def test_speeds_within_the_limits(self):
        for speed in GOOD_SPEEDS:
            with self.subTest(speed=speed):
                self.assertEqual(last([create(*speed)]), [0])
                self.assertEqual(state_behind([create(*speed)]), ([], speed))

    def test_speeds_outside_the_limits(self):
        for speed in BAD_SPEEDS:
            with self.subTest(speed=speed):
                self.assertEqual(last([create(*speed)]), [OUT_OF_LIMITS])

    def test_second_time_replaces_the_line(self):
        self.assertEqual(last(MAKE + [create(2, 1)]), [0])
        self.assertEqual(state_behind(MAKE + [create(2, 1)]), ([], (2, 1)))
        self.assertEqual(last(MAKE + [create(2, 1), add_pit(4, 4)]), [0])

    def test_refused_keeps_the_line(self):
        for speed in BAD_SPEEDS:
            with self.subTest(speed=speed):
                self.assertEqual(last(MAKE + [create(*speed)]), [OUT_OF_LIMITS])
                self.assertEqual(state_behind(MAKE + [create(*speed)]), (PITS, (7, 3)))


class AddPit(unittest.TestCase):
    def test_numbers_from_0_along_the_line(self):
        self.assertEqual(run(MAKE), [[0], [0], [1], [2], [3]])
        self.assertEqual(state_behind(MAKE), (PITS, (7, 3)))

    def test_windows_within_the_limits(self):
        for window in GOOD_WINDOWS:
            with self.subTest(window=window):
                self.assertEqual(run([create(1, 0), add_pit(*window), get_pit(0)]), [[0], [0], list(window)])

    def test_windows_outside_the_limits(self):
        for window in BAD_WINDOWS:
            with self.subTest(window=window):
                self.assertEqual(
                    run([create(1, 0), add_pit(*window), get_pit(0)]), [[0], [OUT_OF_LIMITS], [NO_SUCH_PIT]]
                )

    def test_every_window_near_the_limits(self):
        for least in range(0, 33):
            calls = [create(1, 0)]
            expected = [[0]]
            for most in range(0, 33):
                good = 1 <= least <= most <= 30 and most <= least + 8
                calls += [add_pit(least, most)] + [remove_pit(0)] * good
                expected += [[0], [0]] if good else [[OUT_OF_LIMITS]]
            with self.subTest(least=least):
                self.assertEqual(run(calls), expected)

    def test_fifth_pit(self):
        self.assertEqual(last(MAKE + [add_pit(5, 8)]), [TOO_MANY_PITS])
        self.assertEqual(state_behind(MAKE + [add_pit(5, 8)]), (PITS, (7, 3)))
        self.assertEqual(run(MAKE + [remove_pit(3), add_pit(5, 8), add_pit(5, 8)])[-2:], [[3], [TOO_MANY_PITS]])

    def test_window_is_checked_ahead_of_the_fifth_pit(self):
        for window in BAD_WINDOWS:
            with self.subTest(window=window):
                self.assertEqual(last(MAKE + [add_pit(*window)]), [OUT_OF_LIMITS])


class RemovePit(unittest.TestCase):
    def test_numbers_of_later_pits_decrease(self):
        for pit in range(4):
            rest = PITS[:pit] + PITS[pit + 1 :]
            with self.subTest(pit=pit):
                self.assertEqual(last(MAKE + [remove_pit(pit)]), [3])
                self.assertEqual(state_behind(MAKE + [remove_pit(pit)]), (rest, (7, 3)))

    def test_down_to_none(self):
        results = run(MAKE + [remove_pit(0)] * 5 + [add_pit(6, 7), get_pit(0)])
        self.assertEqual(results[5:], [[3], [2], [1], [0], [NO_SUCH_PIT], [0], [6, 7]])

    def test_no_such_pit(self):
        self.assertEqual(run([create(1, 0), remove_pit(0)])[-1], [NO_SUCH_PIT])
        for pit in (4, 5) + FAR:
            with self.subTest(pit=pit):
                self.assertEqual(last(MAKE + [remove_pit(pit)]), [NO_SUCH_PIT])
                self.assertEqual(state_behind(MAKE + [remove_pit(pit)]), (PITS, (7, 3)))


class SetWindow(unittest.TestCase):
    def test_changes_one_pit_and_answers_its_previous_limits(self):
        for pit in range(4):
            for window in GOOD_WINDOWS:
                changed = PITS[:pit] + [window] + PITS[pit + 1 :]
                with self.subTest(pit=pit, window=window):
                    self.assertEqual(last(MAKE + [set_window(pit, *window)]), [0, *PITS[pit]])
                    self.assertEqual(state_behind(MAKE + [set_window(pit, *window)]), (changed, (7, 3)))

    def test_twice(self):
        results = run(MAKE + [set_window(1, 2, 4), set_window(1, 3, 6), get_pit(1)])
        self.assertEqual(results[-3:], [[0, 5, 5], [0, 2, 4], [3, 6]])

    def test_behind_a_removed_pit(self):
        results = run(MAKE + [remove_pit(0), set_window(0, 2, 4), set_window(3, 2, 4), get_pit(0)])
        self.assertEqual(results[-3:], [[0, 5, 5], [NO_SUCH_PIT], [2, 4]])

    def test_windows_outside_the_limits(self):
        for window in BAD_WINDOWS:
            with self.subTest(window=window):
                self.assertEqual(last(MAKE + [set_window(2, *window)]), [OUT_OF_LIMITS])
                self.assertEqual(state_behind(MAKE + [set_window(2, *window)]), (PITS, (7, 3)))

    def test_pit_is_checked_ahead_of_the_window(self):
        for pit in (4, 5) + FAR:
            for window in [(5, 8)] + BAD_WINDOWS[:3] + [(GREATEST, GREATEST)]:
                with self.subTest(pit=pit, window=window):
                    self.assertEqual(last(MAKE + [set_window(pit, *window)]), [NO_SUCH_PIT])
        self.assertEqual(last([create(1, 0), set_window(0, 0, 0)]), [NO_SUCH_PIT])


class SetSpeed(unittest.TestCase):
    def test_answers_the_previous_times(self):
        for speed in GOOD_SPEEDS:
            with self.subTest(speed=speed):
                self.assertEqual(last(MAKE + [set_speed(*speed)]), [0, 7, 3])
                self.assertEqual(state_behind(MAKE + [set_speed(*speed)]), (PITS, speed))

    def test_times_outside_the_limits(self):
        for speed in BAD_SPEEDS:
            with self.subTest(speed=speed):
                self.assertEqual(last(MAKE + [set_speed(*speed)]), [OUT_OF_LIMITS])
                self.assertEqual(state_behind(MAKE + [set_speed(*speed)]), (PITS, (7, 3)))

    def test_new_times_count_at_once(self):
        results = run([create(2, 1), shortest_period(), set_speed(9, 4), shortest_period()])
        self.assertEqual(results, [[0], [3], [0, 2, 1], [13]])


class GetPit(unittest.TestCase):
    def test_limits_alone(self):
        self.assertEqual(run(MAKE + [get_pit(pit) for pit in range(4)])[5:], [list(window) for window in PITS])

    def test_no_such_pit(self):
        self.assertEqual(last([create(1, 0), get_pit(0)]), [NO_SUCH_PIT])
        for pit in (4, 5) + FAR:
            with self.subTest(pit=pit):
                self.assertEqual(last(MAKE + [get_pit(pit)]), [NO_SUCH_PIT])


if __name__ == "__main__":
    unittest.main()
