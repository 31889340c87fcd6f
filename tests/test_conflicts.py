"""The calls about the conflicts of one plan and the number of plans: first_conflict and plan_count."""

import unittest
from itertools import product

from desk_helper import (
    AT_LONGEST,
    BAD_PERIODS,
    BEYOND_LONGEST,
    EXAMPLE,
    FOUR,
    GREATEST,
    JUST_BEYOND,
    NONE_FOUND,
    OUT_OF_LIMITS,
    PERIODS,
    answer,
    ask,
    conflicts,
    first_conflict,
    first_plan,
    is_feasible,
    plan_count,
    shortest_period,
)


class FirstConflict(unittest.TestCase):
    def test_example(self):
        self.assertEqual(answer(EXAMPLE, first_conflict(10, [5, 3])), [0, 1])

    def test_feasible_plan(self):
        self.assertEqual(answer(EXAMPLE, first_conflict(11, [5, 5])), [NONE_FOUND])
        self.assertEqual(answer(FOUR, first_conflict(26, [12, 12, 12, 12])), [NONE_FOUND])
        self.assertEqual(answer(AT_LONGEST, first_conflict(99, [13, 12, 26])), [NONE_FOUND])

    def test_without_pits(self):
        # There is but one move, so none conflicts, however short the period is for the hoist.
        for period in (1, 12, 13, 99):
            with self.subTest(period=period):
                self.assertEqual(answer((9, 4, []), first_conflict(period, [])), [NONE_FOUND])

    def test_first_of_several(self):
        # 0 and 2 conflict as well, and at the period 1 all three pairs.
        self.assertEqual(conflicts(EXAMPLE, 10, [5, 3]), [[0, 1], [0, 2]])
        self.assertEqual(conflicts(EXAMPLE, 1, [5, 3]), [[0, 1], [0, 2], [1, 2]])
        self.assertEqual(answer(EXAMPLE, first_conflict(1, [5, 3])), [0, 1])
        self.assertEqual(conflicts(FOUR, 25, [12, 12, 12, 12]), [[0, 3], [1, 4]])
        self.assertEqual(answer(FOUR, first_conflict(25, [12, 12, 12, 12])), [0, 3])

    def test_lesser_first_move_goes_ahead_of_lesser_second_move(self):
        # Moves start at 0, 2, 8, 27 and 37; modulo 20 that is 7 for move 3 and 17 for move 4.
        line = (1, 1, [(1, 9)] * 4)
        self.assertEqual(conflicts(line, 20, [1, 5, 18, 9]), [[0, 4], [2, 3]])
        self.assertEqual(answer(line, first_conflict(20, [1, 5, 18, 9])), [0, 4])

    def test_later_pairs(self):
        self.assertEqual(answer(EXAMPLE, first_conflict(12, [5, 3])), [0, 2])
        self.assertEqual(answer(FOUR, first_conflict(28, [12, 15, 12, 15])), [1, 4])
        self.assertEqual(answer(FOUR, first_conflict(33, [8, 10, 12, 9])), [1, 3])

    def test_start_at_the_same_time_modulo_the_period(self):
        # Move 1 starts at 6.
        for period in (1, 2, 3, 6):
            with self.subTest(period=period):
                self.assertEqual(answer((1, 0, [(5, 5)]), first_conflict(period, [5])), [0, 1])
        for period in (4, 5, 7):
            with self.subTest(period=period):
                self.assertEqual(answer((1, 0, [(5, 5)]), first_conflict(period, [5])), [NONE_FOUND])

    def test_limits_for_stays_do_not_matter(self):
        questions = [first_conflict(11, [0, 0]), first_conflict(99, [99, 99]), first_conflict(12, [99, 99])]
        self.assertEqual(ask(EXAMPLE, questions), [[NONE_FOUND], [NONE_FOUND], [0, 2]])
        self.assertEqual(ask(EXAMPLE, [is_feasible(11, [0, 0]), is_feasible(99, [99, 99])]), [[0], [0]])

    def test_stay_of_a_whole_period_is_no_conflict(self):
        self.assertEqual(answer((1, 0, [(5, 5)]), first_conflict(5, [5])), [NONE_FOUND])
        self.assertEqual(answer((1, 0, [(5, 5)]), is_feasible(5, [5])), [0])

    def test_way_of_the_hoist_to_the_minute(self):
        # From move 0 the hoist is where move 2 starts after 3; from move 2 it is back after 5.
        for stay, expected in ((3, [0, 2]), (4, [0, 2]), (5, [NONE_FOUND])):
            with self.subTest(stay=stay):
                self.assertEqual(answer(EXAMPLE, first_conflict(11, [5, stay])), expected)
        self.assertEqual(answer((2, 1, [(5, 8)]), first_conflict(11, [5])), [NONE_FOUND])
        self.assertEqual(answer((2, 1, [(5, 8)]), first_conflict(11, [6])), [0, 1])

    def test_all_plans_of_small_stays_by_the_definitions(self):
        for line in ((1, 0, [(1, 1)] * 2), (2, 1, [(9, 9)] * 2), (3, 4, [(30, 30)] * 2), (1, 2, [(4, 8)] * 3)):
            for period in (1, 5, 9, 14, 31):
                plans = list(product(range(0, 18, len(line[2])), repeat=len(line[2])))
                expected = [(conflicts(line, period, plan) + [[NONE_FOUND]])[0] for plan in plans]
                with self.subTest(line=line, period=period):
                    self.assertEqual(ask(line, [first_conflict(period, plan) for plan in plans]), expected)

    def test_too_few_and_too_many_stays(self):
        for plan in ([], [5], [5, 3, 3], [5, 3, 3, 3], [5, 3, 3, 3, 3], [5, 3, 3, 3, 3, 3]):
            for period in (10, 99):
                with self.subTest(plan=plan, period=period):
                    self.assertEqual(answer(EXAMPLE, first_conflict(period, plan)), [OUT_OF_LIMITS])
        for plan in ([0], [5], [5, 3, 3, 3, 3, 3]):
            with self.subTest(plan=plan):
                self.assertEqual(answer((1, 0, []), first_conflict(99, plan)), [OUT_OF_LIMITS])
        self.assertEqual(answer(FOUR, first_conflict(99, [4, 10, 6])), [OUT_OF_LIMITS])
        self.assertEqual(answer(FOUR, first_conflict(99, [4, 10, 6, 9, 9])), [OUT_OF_LIMITS])

    def test_greatest_stay(self):
        self.assertEqual(answer((1, 0, [(5, 5)]), first_conflict(99, [99])), [NONE_FOUND])
        self.assertEqual(answer((1, 0, [(5, 5)]), first_conflict(50, [99])), [0, 1])
        for stay in (100, 101, 2147483648, GREATEST):
            with self.subTest(stay=stay):
                self.assertEqual(answer(EXAMPLE, first_conflict(99, [stay, 5])), [OUT_OF_LIMITS])
                self.assertEqual(answer(EXAMPLE, first_conflict(99, [5, stay])), [OUT_OF_LIMITS])
                self.assertEqual(answer(EXAMPLE, first_conflict(1, [5, stay])), [OUT_OF_LIMITS])

    def test_periods(self):
        for period in BAD_PERIODS:
            with self.subTest(period=period):
                self.assertEqual(answer(EXAMPLE, first_conflict(period, [5, 3])), [OUT_OF_LIMITS])
                self.assertEqual(answer(EXAMPLE, first_conflict(period, [100])), [OUT_OF_LIMITS])
                self.assertEqual(answer((1, 0, []), first_conflict(period, [])), [OUT_OF_LIMITS])
        self.assertEqual(answer(EXAMPLE, first_conflict(99, [5, 3])), [NONE_FOUND])

    def test_changes_nothing(self):
        question = first_conflict(11, [5, 3])
        self.assertEqual(ask(EXAMPLE, [question, first_conflict(1, [9, 9]), question]), [[0, 2], [0, 1], [0, 2]])


class PlanCount(unittest.TestCase):
    def test_without_pits(self):
        # The plan without stays is one plan.
        self.assertEqual(ask((9, 4, []), [plan_count(period) for period in (1, 12, 13, 99)]), [[0], [0], [1], [1]])
        self.assertEqual(answer((1, 0, []), plan_count(1)), [1])

    def test_example(self):
        # For the period 12: 5 and 6, 6 and 5, 6 and 6.
        questions = [plan_count(period) for period in (1, 10, 11, 12, 99)]
        self.assertEqual(ask(EXAMPLE, questions), [[0], [0], [1], [3], [4 * 8]])

    def test_none(self):
        for line in (JUST_BEYOND, BEYOND_LONGEST):
            with self.subTest(line=line):
                self.assertEqual(ask(line, [plan_count(period) for period in PERIODS]), [[0]] * 99)

    def test_one(self):
        self.assertEqual(ask(AT_LONGEST, [plan_count(98), plan_count(99)]), [[0], [1]])

    def test_all_that_the_windows_allow(self):
        self.assertEqual(answer(FOUR, plan_count(99)), [9**4])
        self.assertEqual(answer((1, 0, [(1, 9), (1, 1), (1, 2)]), plan_count(99)), [9 * 2])

    def test_stays_below_the_period(self):
        # Of 1 to 9, 5 is the last with 2 minutes left in 7 for the moves.
        self.assertEqual(answer((1, 0, [(1, 9)]), plan_count(7)), [5])
        self.assertEqual(answer((1, 0, [(5, 5)]), plan_count(5)), [0])

    def test_not_0_exactly_where_there_is_a_first_plan(self):
        for line in (EXAMPLE, FOUR, AT_LONGEST, (9, 4, [])):
            counts = ask(line, [plan_count(period) for period in PERIODS])
            plans = ask(line, [first_plan(period) for period in PERIODS])
            with self.subTest(line=line):
                self.assertEqual([count == [0] for count in counts], [plan == [NONE_FOUND] for plan in plans])

    def test_outside_the_limits(self):
        for period in BAD_PERIODS:
            for line in (EXAMPLE, BEYOND_LONGEST, (1, 0, [])):
                with self.subTest(period=period, line=line):
                    self.assertEqual(answer(line, plan_count(period)), [OUT_OF_LIMITS])

    def test_changes_nothing(self):
        questions = [plan_count(12), shortest_period(), plan_count(12)]
        self.assertEqual(ask(EXAMPLE, questions), [[3], [11], [3]])


if __name__ == "__main__":
    unittest.main()
