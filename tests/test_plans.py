"""The calls about plans and periods: shortest_period to is_feasible."""

import unittest

from desk_helper import (
    AT_LONGEST,
    BAD_PERIODS,
    BEYOND_LONGEST,
    EXAMPLE,
    FOUR,
    GREATEST,
    JUST_BEYOND,
    NONE_FOUND,
    OUT_OF_LIMITS,
    PERIODS,
    add_pit,
    answer,
    ask,
    create,
    first_plan,
    is_feasible,
    remove_pit,
    run,
    set_speed,
    set_window,
    shortest_period,
    start_times,
)


class ShortestPeriod(unittest.TestCase):
    def test_without_pits_the_hoist_goes_there_and_back(self):
        for move_time in range(1, 10):
            for empty_time in range(0, 5):
                with self.subTest(move_time=move_time, empty_time=empty_time):
                    period = move_time + empty_time
                    self.assertEqual(answer((move_time, empty_time, []), shortest_period()), [period])

    def test_one_pit(self):
        # The stay, the two moves, and the empty ways ahead of and behind them.
        self.assertEqual(answer((2, 1, [(5, 8)]), shortest_period()), [5 + 2 * 2 + 2 * 1])
        self.assertEqual(answer((9, 4, [(30, 30)]), shortest_period()), [30 + 2 * 9 + 2 * 4])
        self.assertEqual(answer((1, 0, [(1, 1)]), shortest_period()), [3])

    def test_not_the_stay_itself(self):
        self.assertEqual(answer((1, 0, [(5, 5)]), shortest_period()), [7])

    def test_example(self):
        self.assertEqual(answer(EXAMPLE, shortest_period()), [11])

    def test_the_longest_that_there_is(self):
        self.assertEqual(answer(AT_LONGEST, shortest_period()), [99])
        self.assertEqual(answer(AT_LONGEST, first_plan(99)), [3, 13, 12, 26])
        self.assertEqual(answer(AT_LONGEST, first_plan(98)), [NONE_FOUND])

    def test_none(self):
        for line in (JUST_BEYOND, BEYOND_LONGEST):
            with self.subTest(line=line):
                self.assertEqual(answer(line, shortest_period()), [NONE_FOUND])
                self.assertEqual(ask(line, [first_plan(period) for period in PERIODS]), [[NONE_FOUND]] * 99)

    def test_follows_the_changes_of_the_line(self):
        calls = [create(2, 1), shortest_period(), add_pit(5, 8), shortest_period(), add_pit(3, 10)]
        calls += [shortest_period(), set_window(0, 9, 9), shortest_period(), set_speed(1, 0), shortest_period()]
        calls += [remove_pit(0), shortest_period(), remove_pit(0), shortest_period()]
        periods = [result[0] for call, result in zip(calls, run(calls)) if call == shortest_period()]
        self.assertEqual(periods, [3, 11, 11, 15, 11, 5, 1])


class FirstPlan(unittest.TestCase):
    def test_without_pits(self):
        self.assertEqual(answer((1, 0, []), first_plan(1)), [0])
        self.assertEqual(answer((1, 0, []), first_plan(99)), [0])
        self.assertEqual(answer((9, 4, []), first_plan(13)), [0])
        self.assertEqual(answer((9, 4, []), first_plan(12)), [NONE_FOUND])

    def test_example(self):
        self.assertEqual(answer(EXAMPLE, first_plan(11)), [2, 5, 5])
        self.assertEqual(answer(EXAMPLE, first_plan(10)), [NONE_FOUND])
        self.assertEqual(answer(EXAMPLE, first_plan(99)), [2, 5, 3])

    def test_least_stays_where_nothing_is_in_the_way(self):
        self.assertEqual(answer(FOUR, first_plan(99)), [4, 4, 10, 6, 9])

    def test_earlier_pits_count_first(self):
        # A stay of 5 in pit 0 goes only with a stay of more than the least in pit 1.
        self.assertEqual(answer((1, 0, [(5, 6), (5, 13)]), first_plan(12)), [2, 5, 6])

    def test_later_start_of_a_plan_is_tried_when_the_earlier_fails(self):
        self.assertEqual(answer((1, 0, [(5, 6), (5, 5)]), first_plan(12)), [2, 6, 5])

    def test_stays_below_the_period(self):
        self.assertEqual(answer((1, 0, [(5, 5)]), first_plan(5)), [NONE_FOUND])
        self.assertEqual(answer((1, 0, [(5, 5)]), first_plan(4)), [NONE_FOUND])
        self.assertEqual(answer((1, 0, [(5, 5)]), first_plan(7)), [1, 5])
        self.assertEqual(answer((1, 0, [(1, 1)]), first_plan(1)), [NONE_FOUND])

    def test_stay_at_the_upper_limit(self):
        self.assertEqual(answer((1, 0, [(5, 6), (5, 6)]), first_plan(12)), [2, 5, 6])
        self.assertEqual(answer((1, 0, [(5, 5), (5, 5)]), first_plan(12)), [NONE_FOUND])


class StartTimes(unittest.TestCase):
    def test_without_pits(self):
        self.assertEqual(answer((1, 0, []), start_times(1)), [1, 0])
        self.assertEqual(answer((9, 4, []), start_times(12)), [NONE_FOUND])

    def test_example(self):
        self.assertEqual(answer(EXAMPLE, start_times(11)), [3, 0, 7, 14])
        self.assertEqual(answer(EXAMPLE, start_times(10)), [NONE_FOUND])

    def test_four_pits(self):
        self.assertEqual(answer(FOUR, start_times(99)), [5, 0, 7, 20, 29, 41])

    def test_the_longest_that_there_is(self):
        self.assertEqual(answer(AT_LONGEST, start_times(99)), [4, 0, 21, 41, 75])


class IsFeasible(unittest.TestCase):
    def test_without_pits(self):
        self.assertEqual(answer((1, 0, []), is_feasible(1, [])), [1])
        self.assertEqual(answer((9, 4, []), is_feasible(13, [])), [1])
        self.assertEqual(answer((9, 4, []), is_feasible(12, [])), [0])
        self.assertEqual(answer((9, 0, []), is_feasible(9, [])), [1])
        self.assertEqual(answer((9, 0, []), is_feasible(8, [])), [0])

    def test_example(self):
        self.assertEqual(answer(EXAMPLE, is_feasible(10, [5, 3])), [0])
        self.assertEqual(answer(EXAMPLE, is_feasible(11, [5, 5])), [1])
        self.assertEqual(answer(EXAMPLE, is_feasible(99, [5, 3])), [1])

    def test_limits_of_the_stays(self):
        plans = [[5, 3], [8, 10], [4, 3], [9, 3], [5, 2], [5, 11], [8, 11], [4, 10]]
        results = ask(EXAMPLE, [is_feasible(99, plan) for plan in plans])
        self.assertEqual(results, [[1], [1], [0], [0], [0], [0], [0], [0]])

    def test_stay_of_a_whole_period(self):
        # No two moves conflict, but the pit would have to hold two lots at once.
        self.assertEqual(answer((1, 0, [(5, 5)]), is_feasible(5, [5])), [0])
        self.assertEqual(answer((1, 0, [(5, 9)]), is_feasible(5, [7])), [0])
        self.assertEqual(answer((1, 0, [(5, 9)]), is_feasible(9, [7])), [1])

    def test_moves_at_the_same_time(self):
        self.assertEqual(answer((1, 0, [(5, 5)]), is_feasible(6, [5])), [0])

    def test_way_of_the_hoist_to_the_minute(self):
        # Move 1 starts at 7; from its end at place 2 the hoist goes two places back.
        self.assertEqual(answer((2, 1, [(5, 8)]), is_feasible(11, [5])), [1])
        self.assertEqual(answer((2, 1, [(5, 8)]), is_feasible(10, [5])), [0])
        self.assertEqual(answer((2, 1, [(5, 8)]), is_feasible(11, [6])), [0])
        self.assertEqual(answer((2, 1, [(5, 8)]), is_feasible(12, [6])), [1])

    def test_way_along_the_line_to_the_minute(self):
        # Move 2 starts at 22, that is 4 behind move 0 of the next lot, which takes 3 and ends one
        # place ahead of it.
        line = (3, 1, [(4, 12), (4, 12)])
        self.assertEqual(answer(line, is_feasible(18, [8, 8])), [1])
        self.assertEqual(answer(line, is_feasible(18, [8, 7])), [0])
        self.assertEqual(answer(line, is_feasible(18, [7, 8])), [0])

    def test_period_alone_too_short_for_the_hoist(self):
        self.assertEqual(answer((5, 1, [(1, 9)]), is_feasible(5, [1])), [0])

    def test_too_few_and_too_many_stays(self):
        good = [5, 3]
        for plan in ([], [5], [5, 3, 3], [5, 3, 3, 3], [5, 3, 3, 3, 3], [5, 3, 3, 3, 3, 3]):
            with self.subTest(plan=plan):
                self.assertEqual(answer(EXAMPLE, is_feasible(99, plan)), [OUT_OF_LIMITS])
        self.assertEqual(answer(EXAMPLE, is_feasible(99, good)), [1])
        for plan in ([0], [5], [5, 3, 3, 3, 3, 3]):
            with self.subTest(plan=plan):
                self.assertEqual(answer((1, 0, []), is_feasible(99, plan)), [OUT_OF_LIMITS])
        self.assertEqual(answer(FOUR, is_feasible(99, [4, 10, 6])), [OUT_OF_LIMITS])
        self.assertEqual(answer(FOUR, is_feasible(99, [4, 10, 6, 9])), [1])
        self.assertEqual(answer(FOUR, is_feasible(99, [4, 10, 6, 9, 9])), [OUT_OF_LIMITS])

    def test_greatest_stay(self):
        self.assertEqual(answer(EXAMPLE, is_feasible(99, [0, 0])), [0])
        self.assertEqual(answer(EXAMPLE, is_feasible(99, [99, 99])), [0])
        self.assertEqual(answer(EXAMPLE, is_feasible(1, [99, 5])), [0])
        for stay in (100, 101, 2147483648, GREATEST):
            with self.subTest(stay=stay):
                self.assertEqual(answer(EXAMPLE, is_feasible(99, [stay, 5])), [OUT_OF_LIMITS])
                self.assertEqual(answer(EXAMPLE, is_feasible(99, [5, stay])), [OUT_OF_LIMITS])
                self.assertEqual(answer(EXAMPLE, is_feasible(1, [4, stay])), [OUT_OF_LIMITS])

    def test_changes_nothing(self):
        question = is_feasible(11, [5, 5])
        self.assertEqual(ask(EXAMPLE, [question, is_feasible(11, [8, 9]), question]), [[1], [0], [1]])


class Periods(unittest.TestCase):
    def test_outside_the_limits(self):
        for period in BAD_PERIODS:
            for line in (EXAMPLE, BEYOND_LONGEST, (1, 0, [])):
                plan = [least for least, most in line[2]]
                questions = [first_plan(period), start_times(period), is_feasible(period, plan)]
                with self.subTest(period=period, line=line):
                    self.assertEqual(ask(line, questions), [[OUT_OF_LIMITS]] * 3)

    def test_outside_the_limits_with_a_plan_outside_them(self):
        for period in BAD_PERIODS:
            for plan in ([], [100, 5], [5, 5, 5], [GREATEST] * 6):
                with self.subTest(period=period, plan=plan):
                    self.assertEqual(answer(EXAMPLE, is_feasible(period, plan)), [OUT_OF_LIMITS])

    def test_first_and_last(self):
        questions = [first_plan(1), start_times(1), is_feasible(1, [5, 3])]
        self.assertEqual(ask(EXAMPLE, questions), [[NONE_FOUND], [NONE_FOUND], [0]])
        questions = [first_plan(99), start_times(99), is_feasible(99, [5, 3])]
        self.assertEqual(ask(EXAMPLE, questions), [[2, 5, 3], [3, 0, 7, 12], [1]])


if __name__ == "__main__":
    unittest.main()
