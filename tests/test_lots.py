"""The calls about lots by the first plan: throughput_time, max_occupied and completion_time."""

import unittest

from desk_helper import (
    AT_LONGEST,
    BAD_PERIODS,
    BEYOND_LONGEST,
    EXAMPLE,
    FOUR,
    GREATEST,
    JUST_BEYOND,
    NONE_FOUND,
    OUT_OF_LIMITS,
    PERIODS,
    answer,
    ask,
    completion_time,
    first_plan,
    max_occupied,
    occupied_in_the_long_run,
    start_times,
    throughput_time,
)

BAD_LOTS = (0, 100, 101, 1000, 2147483648, GREATEST - 1, GREATEST)


class ThroughputTime(unittest.TestCase):
    def test_without_pits_the_one_move(self):
        self.assertEqual(answer((1, 0, []), throughput_time(1)), [1])
        self.assertEqual(answer((9, 4, []), throughput_time(13)), [9])
        self.assertEqual(answer((9, 4, []), throughput_time(99)), [9])
        self.assertEqual(answer((9, 4, []), throughput_time(12)), [NONE_FOUND])

    def test_example(self):
        questions = [throughput_time(period) for period in (10, 11, 12, 99)]
        self.assertEqual(ask(EXAMPLE, questions), [[NONE_FOUND], [5 + 5 + 6], [5 + 6 + 6], [5 + 3 + 6]])

    def test_to_the_end_of_the_last_move(self):
        for line in (EXAMPLE, FOUR, AT_LONGEST, (9, 4, [])):
            for period in PERIODS:
                times, result = ask(line, [start_times(period), throughput_time(period)])
                expected = [NONE_FOUND] if times == [NONE_FOUND] else [times[-1] + line[0]]
                with self.subTest(line=line, period=period):
                    self.assertEqual(result, expected)


class MaxOccupied(unittest.TestCase):
    def test_without_pits(self):
        self.assertEqual(answer((1, 0, []), max_occupied(1)), [0])
        self.assertEqual(answer((9, 4, []), max_occupied(99)), [0])
        self.assertEqual(answer((9, 4, []), max_occupied(12)), [NONE_FOUND])

    def test_one_pit(self):
        self.assertEqual(answer((1, 0, [(1, 1)]), max_occupied(3)), [1])
        self.assertEqual(answer((1, 0, [(1, 1)]), max_occupied(99)), [1])

    def test_one_lot_at_a_time(self):
        self.assertEqual(answer(EXAMPLE, max_occupied(99)), [1])
        self.assertEqual(answer(FOUR, max_occupied(50)), [1])

    def test_stay_across_the_end_of_a_period(self):
        # Pit 0 is occupied from 2 to 7, pit 1 from 9 to 14, that is until 3 in the next period.
        self.assertEqual(answer(EXAMPLE, first_plan(11)), [2, 5, 5])
        self.assertEqual(answer(EXAMPLE, max_occupied(11)), [2])

    def test_several_lots_at_a_time(self):
        self.assertEqual(answer(FOUR, max_occupied(26)), [3])
        self.assertEqual(answer(FOUR, max_occupied(36)), [2])
        self.assertEqual(answer((1, 0, [(20, 28)] * 4), max_occupied(22)), [4])

    def test_pit_is_free_from_the_start_of_the_move_that_takes_its_lot_away(self):
        # Move 2 starts at 12, when move 0 of the next lot, started at 11, has just ended.
        line = (1, 0, [(5, 5), (5, 5)])
        self.assertEqual(ask(line, [start_times(11), max_occupied(11)]), [[3, 0, 6, 12], [1]])
        self.assertEqual(ask(line, [start_times(10), max_occupied(10)]), [[3, 0, 6, 12], [2]])

    def test_by_the_definition(self):
        for line in (EXAMPLE, FOUR, AT_LONGEST, (1, 0, [(3, 9), (1, 9), (20, 28)]), (1, 0, [(5, 5)] * 4)):
            for period in range(1, 100, 2):
                plan, result = ask(line, [first_plan(period), max_occupied(period)])
                expected = NONE_FOUND
                if plan != [NONE_FOUND]:
                    expected = occupied_in_the_long_run(line, period, plan[1:])
                with self.subTest(line=line, period=period):
                    self.assertEqual(result, [expected])


class CompletionTime(unittest.TestCase):
    def test_without_pits(self):
        self.assertEqual(answer((1, 0, []), completion_time(1, 1)), [1])
        self.assertEqual(answer((1, 0, []), completion_time(1, 99)), [99])
        self.assertEqual(answer((9, 4, []), completion_time(99, 99)), [98 * 99 + 9])
        self.assertEqual(answer((9, 4, []), completion_time(12, 1)), [NONE_FOUND])

    def test_one_lot_takes_the_throughput_time(self):
        for line in (EXAMPLE, FOUR, AT_LONGEST):
            for period in (11, 26, 50, 99):
                with self.subTest(line=line, period=period):
                    once, alone = ask(line, [throughput_time(period), completion_time(period, 1)])
                    self.assertEqual(once, alone)

    def test_each_lot_more_takes_a_period(self):
        self.assertEqual(ask(EXAMPLE, [completion_time(11, 1), completion_time(11, 2)]), [[16], [27]])
        self.assertEqual(answer(EXAMPLE, completion_time(11, 99)), [98 * 11 + 16])
        results = ask(FOUR, [completion_time(26, lots) for lots in range(1, 100)])
        self.assertEqual(results, [[63 + 26 * lots] for lots in range(99)])
        self.assertEqual(answer(AT_LONGEST, completion_time(99, 99)), [98 * 99 + 83])

    def test_lots_outside_the_limits(self):
        for lots in BAD_LOTS:
            for line in (EXAMPLE, BEYOND_LONGEST, (1, 0, [])):
                with self.subTest(lots=lots, line=line):
                    self.assertEqual(answer(line, completion_time(99, lots)), [OUT_OF_LIMITS])

    def test_lots_are_checked_ahead_of_the_first_plan(self):
        for lots in BAD_LOTS:
            with self.subTest(lots=lots):
                self.assertEqual(answer(EXAMPLE, completion_time(10, lots)), [OUT_OF_LIMITS])
                self.assertEqual(answer(EXAMPLE, completion_time(0, lots)), [OUT_OF_LIMITS])
                self.assertEqual(answer(EXAMPLE, completion_time(GREATEST, lots)), [OUT_OF_LIMITS])


class Periods(unittest.TestCase):
    def test_outside_the_limits(self):
        for period in BAD_PERIODS:
            for line in (EXAMPLE, BEYOND_LONGEST, (1, 0, [])):
                questions = [throughput_time(period), max_occupied(period), completion_time(period, 1)]
                with self.subTest(period=period, line=line):
                    self.assertEqual(ask(line, questions), [[OUT_OF_LIMITS]] * 3)

    def test_without_a_feasible_plan(self):
        for line in (JUST_BEYOND, BEYOND_LONGEST):
            for period in PERIODS:
                questions = [throughput_time(period), max_occupied(period), completion_time(period, 99)]
                with self.subTest(period=period, line=line):
                    self.assertEqual(ask(line, questions), [[NONE_FOUND]] * 3)

    def test_first_and_last(self):
        questions = [throughput_time(1), max_occupied(1), completion_time(1, 1)]
        self.assertEqual(ask(EXAMPLE, questions), [[NONE_FOUND]] * 3)
        questions = [throughput_time(99), max_occupied(99), completion_time(99, 2)]
        self.assertEqual(ask(EXAMPLE, questions), [[14], [1], [113]])

    def test_nothing_is_changed(self):
        questions = [throughput_time(11), max_occupied(11), completion_time(11, 3)]
        self.assertEqual(ask(EXAMPLE, questions * 2), [[16], [2], [38]] * 2)


if __name__ == "__main__":
    unittest.main()
