"""The calls about a line as it might be, and about all of it: shortest_period_with_window to status."""

import unittest

from desk_helper import (
    AT_LONGEST,
    BAD_SPEEDS,
    BAD_WINDOWS,
    BEYOND_LONGEST,
    EXAMPLE,
    FAR,
    FOUR,
    GOOD_SPEEDS,
    GOOD_WINDOWS,
    GREATEST,
    JUST_BEYOND,
    NO_SUCH_PIT,
    NONE_FOUND,
    OUT_OF_LIMITS,
    PERIODS,
    add_pit,
    answer,
    ask,
    bound_by_the_words,
    create,
    feasible_periods,
    first_plan,
    get_pit,
    line_calls,
    remove_pit,
    run,
    set_speed,
    set_window,
    shortest_period,
    shortest_period_with_speed,
    shortest_period_with_window,
    status,
)

LINES = (EXAMPLE, FOUR, AT_LONGEST, JUST_BEYOND, BEYOND_LONGEST, (9, 4, [(30, 30)]), (1, 0, []))


def state_questions(line):
    return [status(), shortest_period()] + [get_pit(pit) for pit in range(len(line[2]) + 1)]


class Unchanged(unittest.TestCase):
    """What the two calls that try a change leave behind: the line as it was."""

    def check(self, line, question):
        before = run(line_calls(line) + state_questions(line))
        behind = run(line_calls(line) + [question] + state_questions(line))
        place = len(line_calls(line))
        self.assertEqual(behind[place + 1 :], before[place:])


class ShortestPeriodWithWindow(Unchanged):
    def test_one_pit(self):
        line = (2, 1, [(5, 8)])
        results = ask(line, [shortest_period_with_window(0, *window) for window in GOOD_WINDOWS])
        self.assertEqual(results, [[least + 2 * 2 + 2 * 1] for least, most in GOOD_WINDOWS])

    def test_example(self):
        self.assertEqual(answer(EXAMPLE, shortest_period_with_window(0, 9, 9)), [15])
        self.assertEqual(answer(EXAMPLE, shortest_period_with_window(0, 5, 8)), [11])
        self.assertEqual(answer(EXAMPLE, shortest_period_with_window(1, 8, 10)), [14])

    def test_like_set_window_and_shortest_period(self):
        for line in LINES:
            for pit in range(len(line[2])):
                for window in GOOD_WINDOWS:
                    changed = ask(line, [set_window(pit, *window), shortest_period()])[-1]
                    with self.subTest(line=line, pit=pit, window=window):
                        self.assertEqual(answer(line, shortest_period_with_window(pit, *window)), changed)

    def test_no_such_period(self):
        self.assertEqual(answer(AT_LONGEST, shortest_period_with_window(2, 27, 27)), [NONE_FOUND])
        self.assertEqual(answer(AT_LONGEST, shortest_period_with_window(2, 26, 27)), [99])
        self.check(AT_LONGEST, shortest_period_with_window(2, 27, 27))

    def test_a_period_where_the_line_has_none(self):
        self.assertEqual(answer(JUST_BEYOND, shortest_period()), [NONE_FOUND])
        self.assertEqual(answer(JUST_BEYOND, shortest_period_with_window(2, 26, 26)), [99])
        self.check(JUST_BEYOND, shortest_period_with_window(2, 26, 26))

    def test_windows_outside_the_limits(self):
        for window in BAD_WINDOWS:
            for line in (FOUR, AT_LONGEST, BEYOND_LONGEST):
                with self.subTest(window=window, line=line):
                    self.assertEqual(answer(line, shortest_period_with_window(1, *window)), [OUT_OF_LIMITS])
                    self.check(line, shortest_period_with_window(1, *window))

    def test_no_such_pit(self):
        self.assertEqual(answer((1, 0, []), shortest_period_with_window(0, 5, 8)), [NO_SUCH_PIT])
        self.assertEqual(answer(EXAMPLE, shortest_period_with_window(2, 5, 8)), [NO_SUCH_PIT])
        for pit in (4, 5) + FAR:
            with self.subTest(pit=pit):
                self.assertEqual(answer(FOUR, shortest_period_with_window(pit, 5, 8)), [NO_SUCH_PIT])
                self.check(FOUR, shortest_period_with_window(pit, 5, 8))

    def test_pit_is_checked_ahead_of_the_window(self):
        for pit in (4, 5) + FAR:
            for window in BAD_WINDOWS:
                with self.subTest(pit=pit, window=window):
                    self.assertEqual(answer(FOUR, shortest_period_with_window(pit, *window)), [NO_SUCH_PIT])
        self.assertEqual(answer((1, 0, []), shortest_period_with_window(0, 0, 0)), [NO_SUCH_PIT])

    def test_line_of_four_pits_is_not_full_for_it(self):
        self.assertEqual(answer(FOUR, shortest_period_with_window(3, 9, 17)), [26])

    def test_state_is_not_changed(self):
        for line in LINES:
            for pit in range(len(line[2])):
                with self.subTest(line=line, pit=pit):
                    self.check(line, shortest_period_with_window(pit, 1, 2))


class ShortestPeriodWithSpeed(Unchanged):
    def test_without_pits_the_hoist_goes_there_and_back(self):
        results = ask((5, 2, []), [shortest_period_with_speed(*speed) for speed in GOOD_SPEEDS])
        self.assertEqual(results, [[move_time + empty_time] for move_time, empty_time in GOOD_SPEEDS])

    def test_one_pit(self):
        results = ask((2, 1, [(5, 8)]), [shortest_period_with_speed(*speed) for speed in GOOD_SPEEDS])
        self.assertEqual(results, [[5 + 2 * move_time + 2 * empty_time] for move_time, empty_time in GOOD_SPEEDS])

    def test_like_set_speed_and_shortest_period(self):
        for line in LINES:
            for move_time in range(1, 10):
                for empty_time in range(0, 5):
                    changed = ask(line, [set_speed(move_time, empty_time), shortest_period()])[-1]
                    with self.subTest(line=line, move_time=move_time, empty_time=empty_time):
                        result = answer(line, shortest_period_with_speed(move_time, empty_time))
                        self.assertEqual(result, changed)

    def test_no_such_period(self):
        self.assertEqual(answer(AT_LONGEST, shortest_period_with_speed(9, 4)), [NONE_FOUND])
        self.assertEqual(answer(AT_LONGEST, shortest_period_with_speed(8, 4)), [99])
        self.check(AT_LONGEST, shortest_period_with_speed(9, 4))

    def test_a_period_where_the_line_has_none(self):
        self.assertEqual(answer(BEYOND_LONGEST, shortest_period()), [NONE_FOUND])
        self.assertEqual(answer(BEYOND_LONGEST, shortest_period_with_speed(1, 0)), [29])
        self.check(BEYOND_LONGEST, shortest_period_with_speed(1, 0))

    def test_times_outside_the_limits(self):
        for speed in BAD_SPEEDS:
            for line in (FOUR, AT_LONGEST, BEYOND_LONGEST, (1, 0, [])):
                with self.subTest(speed=speed, line=line):
                    self.assertEqual(answer(line, shortest_period_with_speed(*speed)), [OUT_OF_LIMITS])
                    self.check(line, shortest_period_with_speed(*speed))

    def test_state_is_not_changed(self):
        for line in LINES:
            with self.subTest(line=line):
                self.check(line, shortest_period_with_speed(3, 3))


class FeasiblePeriods(unittest.TestCase):
    def test_without_pits(self):
        self.assertEqual(answer((1, 0, []), feasible_periods()), [99, *range(1, 100)])
        self.assertEqual(answer((9, 4, []), feasible_periods()), [87, *range(13, 100)])

    def test_example(self):
        self.assertEqual(answer(EXAMPLE, feasible_periods()), [89, *range(11, 100)])

    def test_none(self):
        for line in (JUST_BEYOND, BEYOND_LONGEST):
            with self.subTest(line=line):
                self.assertEqual(answer(line, feasible_periods()), [0])

    def test_one(self):
        self.assertEqual(answer(AT_LONGEST, feasible_periods()), [1, 99])

    def test_a_period_between_is_left_out(self):
        # Moves start at 0, 6 and 12, so with a period of 12 the first and the last are at the same time.
        periods = list(range(7, 12)) + list(range(13, 100))
        self.assertEqual(answer((1, 0, [(5, 5), (5, 5)]), feasible_periods()), [len(periods)] + periods)

    def test_those_with_a_first_plan(self):
        for line in LINES:
            plans = ask(line, [first_plan(period) for period in PERIODS])
            expected = [period for period, plan in zip(PERIODS, plans) if plan != [NONE_FOUND]]
            with self.subTest(line=line):
                self.assertEqual(answer(line, feasible_periods()), [len(expected)] + expected)

    def test_nothing_is_changed(self):
        results = ask(EXAMPLE, [feasible_periods(), status(), feasible_periods()])
        self.assertEqual(results[0], results[2])
        self.assertEqual(results[1], [2, 2, 1, 11])


class Status(unittest.TestCase):
    def test_without_pits_there_and_back_is_the_greatest(self):
        for speed in GOOD_SPEEDS:
            with self.subTest(speed=speed):
                self.assertEqual(answer((*speed, []), status()), [0, *speed, sum(speed)])

    def test_all_moves_are_the_greatest(self):
        self.assertEqual(answer((9, 0, [(1, 1)] * 4), status()), [4, 9, 0, 45])
        self.assertEqual(answer((9, 0, [(8, 9), (8, 16)]), status()), [2, 9, 0, 27])
        self.assertEqual(answer((9, 0, [(9, 9), (10, 10)]), status()), [2, 9, 0, 28])

    def test_one_pit_is_the_greatest(self):
        self.assertEqual(answer(EXAMPLE, status()), [2, 2, 1, 11])
        self.assertEqual(answer(FOUR, status()), [4, 3, 1, 18])
        self.assertEqual(answer((9, 4, [(30, 30)]), status()), [1, 9, 4, 56])

    def test_whichever_pit_it_is(self):
        for pit in range(4):
            windows = [(2, 10)] * 4
            windows[pit] = (20, 21)
            with self.subTest(pit=pit):
                self.assertEqual(answer((1, 2, windows), status()), [4, 1, 2, 26])

    def test_least_counts_not_most(self):
        self.assertEqual(answer((1, 0, [(5, 13), (6, 6)]), status()), [2, 1, 0, 8])

    def test_follows_the_changes_of_the_line(self):
        calls = [create(2, 1), status(), add_pit(5, 8), status(), set_window(0, 9, 9), status()]
        calls += [set_speed(9, 4), status(), remove_pit(0), status(), create(1, 0), status()]
        expected = [[0, 2, 1, 3], [1, 2, 1, 11], [1, 2, 1, 15], [1, 9, 4, 35], [0, 9, 4, 13], [0, 1, 0, 1]]
        self.assertEqual(run(calls)[1::2], expected)

    def test_failed_calls_change_nothing(self):
        failed = [create(0, GREATEST), add_pit(GREATEST, 1), remove_pit(GREATEST), set_window(0, 1, GREATEST)]
        failed += [set_speed(GREATEST, GREATEST), first_plan(0)]
        self.assertEqual(ask(EXAMPLE, failed + [status()])[-1], [2, 2, 1, 11])

    def test_by_the_words(self):
        for line in LINES:
            for speed in GOOD_SPEEDS:
                changed = (*speed, line[2])
                with self.subTest(line=changed):
                    self.assertEqual(answer(changed, status()), [len(line[2]), *speed, bound_by_the_words(changed)])


if __name__ == "__main__":
    unittest.main()
