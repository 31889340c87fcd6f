"""The document's requirements 1 to 6, held against its definitions written out anew."""

import unittest
from itertools import product
from random import Random

from desk_helper import (
    NONE_FOUND,
    PERIODS,
    answer,
    ask,
    bound_by_the_words,
    clash,
    feasible,
    feasible_periods,
    feasible_plans,
    first_plan,
    is_feasible,
    plan_count,
    shortest_period,
    shortest_period_with_speed,
    shortest_period_with_window,
    start_times,
    status,
)


def made_lines(seed, count, pit_counts, widest, speeds):
    """Lines of all sorts, the same ones every time."""
    source = Random(seed)
    lines = []
    for _ in range(count):
        windows = []
        for _ in range(source.choice(pit_counts)):
            least = source.randint(1, 30)
            windows.append((least, min(30, least + source.randint(0, widest))))
        lines.append((*source.choice(speeds), windows))
    return lines


ALL_SPEEDS = list(product(range(1, 10), range(0, 5)))
FEW_PITS = made_lines(1, 12, [0, 1, 2], 8, ALL_SPEEDS)
MANY_PITS = made_lines(2, 10, [3, 4], 2, ALL_SPEEDS)
QUICK = made_lines(3, 6, [3, 4], 2, [(1, 0), (2, 0), (1, 1), (2, 1)])
LINES = FEW_PITS + MANY_PITS + QUICK
WIDE = made_lines(4, 25, [4], 8, ALL_SPEEDS)


def shortest_by_the_definitions(line):
    for period in PERIODS:
        if feasible_plans(line, period):
            return period
    return NONE_FOUND


class PlansAreComplete(unittest.TestCase):
    """1: plan_count counts the plans for which is_feasible returns 1, and first_plan is their first."""

    def test_first_plan_and_plan_count_by_the_definitions(self):
        for line in LINES:
            periods = [period for period in PERIODS if period % 3 == 0 or period < 30]
            firsts = []
            counts = []
            for period in periods:
                plans = feasible_plans(line, period)
                firsts.append([len(line[2])] + plans[0] if plans else [NONE_FOUND])
                counts.append([len(plans)])
            with self.subTest(line=line):
                self.assertEqual(ask(line, [first_plan(period) for period in periods]), firsts)
                self.assertEqual(ask(line, [plan_count(period) for period in periods]), counts)

    def test_first_plan_and_plan_count_among_those_that_is_feasible_takes(self):
        for line in FEW_PITS + QUICK:
            shortest = ask(line, [shortest_period()])[0][0]
            plans = list(product(*[range(least, most + 1) for least, most in line[2]]))
            for period in (shortest, shortest + 1, 60, 99):
                results = ask(line, [is_feasible(period, plan) for plan in plans])
                taken = [list(plan) for plan, result in zip(plans, results) if result == [1]]
                expected = [len(line[2])] + taken[0] if taken else [NONE_FOUND]
                with self.subTest(line=line, period=period):
                    self.assertEqual(ask(line, [first_plan(period), plan_count(period)]), [expected, [len(taken)]])

    def test_is_feasible_by_the_definitions(self):
        source = Random(5)
        for line in LINES + WIDE:
            questions = []
            expected = []
            for _ in range(60):
                period = source.randint(1, 99)
                plan = [source.randint(max(0, least - 1), most + 1) for least, most in line[2]]
                questions.append(is_feasible(period, plan))
                expected.append([1 if feasible(line, period, plan) else 0])
            with self.subTest(line=line):
                self.assertEqual(ask(line, questions), expected)


class ShortestIsMinimal(unittest.TestCase):
    """2: the shortest period has a feasible plan, and no shorter one has."""

    def test_shortest_period_by_the_definitions(self):
        for line in LINES:
            with self.subTest(line=line):
                self.assertEqual(answer(line, shortest_period()), [shortest_by_the_definitions(line)])

    def test_first_plan_refuses_all_that_is_shorter(self):
        for line in WIDE:
            shortest = ask(line, [shortest_period()])[0][0]
            results = ask(line, [first_plan(period) for period in PERIODS])
            found = [period for period, result in zip(PERIODS, results) if result != [NONE_FOUND]]
            with self.subTest(line=line):
                self.assertEqual(shortest, found[0] if found else NONE_FOUND)
                self.assertEqual(answer(line, feasible_periods()), [len(found)] + found)

    def test_feasible_periods_by_the_definitions(self):
        for line in LINES:
            expected = [period for period in PERIODS if feasible_plans(line, period)]
            with self.subTest(line=line):
                self.assertEqual(answer(line, feasible_periods()), [len(expected)] + expected)

    def test_shortest_period_with_changes_by_the_definitions(self):
        for move_time, empty_time, windows in LINES:
            for pit in range(len(windows)):
                changed = windows[:pit] + [(14, 15)] + windows[pit + 1 :]
                expected = shortest_by_the_definitions((move_time, empty_time, changed))
                with self.subTest(line=(move_time, empty_time, windows), pit=pit):
                    question = shortest_period_with_window(pit, 14, 15)
                    self.assertEqual(answer((move_time, empty_time, windows), question), [expected])
            expected = shortest_by_the_definitions((3, 1, windows))
            with self.subTest(line=(move_time, empty_time, windows)):
                question = shortest_period_with_speed(3, 1)
                self.assertEqual(answer((move_time, empty_time, windows), question), [expected])


class OnePlaceAtATime(unittest.TestCase):
    """3: with a feasible plan the hoist is never needed at two places."""

    def test_all_moves_of_many_lots_one_behind_another(self):
        for line in LINES + WIDE:
            shortest = ask(line, [shortest_period()])[0][0]
            for period in (shortest, 50, 70, 99):
                times = ask(line, [start_times(period)])[0] if period != NONE_FOUND else [NONE_FOUND]
                if times == [NONE_FOUND]:
                    continue
                moves = sorted((start + lot * period, move) for lot in range(12) for move, start in enumerate(times[1:]))
                for place, earlier in enumerate(moves):
                    for later in moves[place + 1 :]:
                        self.assertFalse(clash(line, earlier, later), (line, period, earlier, later))


class NotBelowTheBound(unittest.TestCase):
    """4: the shortest period is at least the bound returned by status."""

    def test_shortest_period(self):
        met = 0
        for line in LINES + WIDE:
            results = ask(line, [status(), shortest_period()])
            bound = results[0][3]
            with self.subTest(line=line):
                self.assertEqual(bound, bound_by_the_words(line))
                if results[1] != [NONE_FOUND]:
                    self.assertGreaterEqual(results[1][0], bound)
                    met += results[1][0] == bound
        # Where the bound is met it can't be greater than it ought to be.
        self.assertGreater(met, 5)

    def test_no_plan_below_it(self):
        for line in LINES + WIDE:
            bound = answer(line, status())[3]
            with self.subTest(line=line):
                self.assertTrue(all(period >= bound for period in answer(line, feasible_periods())[1:]))
                for period in range(1, min(bound, 100)):
                    self.assertEqual(answer(line, plan_count(period)), [0])


class WiderWindow(unittest.TestCase):
    """5: a wider window never makes the shortest period longer."""

    def length(self, line, question):
        result = answer(line, question)
        return 100 if result == [NONE_FOUND] else result[0]

    def widened(self, window):
        least, most = window
        wider = []
        for lower in range(max(1, least - 3), least + 1):
            for upper in range(most, min(30, lower + 8) + 1):
                wider.append((lower, upper))
        return wider

    def test_shortest_period_with_each_wider_window(self):
        shorter = 0
        for line in LINES:
            before = self.length(line, shortest_period())
            for pit, window in enumerate(line[2]):
                for wider in self.widened(window):
                    behind = self.length(line, shortest_period_with_window(pit, *wider))
                    with self.subTest(line=line, pit=pit, wider=wider):
                        self.assertLessEqual(behind, before)
                    shorter += behind < before
        self.assertGreater(shorter, 50)

    def test_each_window_a_minute_wider_than_the_one_ahead(self):
        for line in QUICK + WIDE[:5]:
            for pit in range(len(line[2])):
                windows = [(12, 12 + wide) for wide in range(9)]
                lengths = [self.length(line, shortest_period_with_window(pit, *window)) for window in windows]
                with self.subTest(line=line, pit=pit):
                    self.assertEqual(lengths, sorted(lengths, reverse=True))

    def test_plans_and_periods_of_the_narrower_one_remain(self):
        for move_time, empty_time, windows in QUICK:
            wide = (move_time, empty_time, [(least, min(30, least + 8)) for least, most in windows])
            line = (move_time, empty_time, windows)
            with self.subTest(line=line):
                narrow_periods = answer(line, feasible_periods())[1:]
                self.assertLessEqual(set(narrow_periods), set(answer(wide, feasible_periods())[1:]))
                for period in (30, 50, 99):
                    counts = [answer(one, plan_count(period))[0] for one in (line, wide)]
                    self.assertLessEqual(*counts)


class StaysAsPlanned(unittest.TestCase):
    """6: every lot stays in each pit as long as the plan says, and within the limits."""

    def test_times_between_the_moves(self):
        met = 0
        for line in LINES + WIDE:
            for period in range(10, 100, 7):
                plan, times = ask(line, [first_plan(period), start_times(period)])
                if plan == [NONE_FOUND]:
                    self.assertEqual(times, [NONE_FOUND])
                    continue
                met += 1
                self.assertEqual(plan[0], len(line[2]))
                self.assertEqual(times[0], len(line[2]) + 1)
                self.assertEqual(times[1], 0)
                ends = [start + line[0] for start in times[1:]]
                stays = [start - end for end, start in zip(ends, times[2:])]
                self.assertEqual(stays, plan[1:])
                for stay, (least, most) in zip(stays, line[2]):
                    self.assertTrue(least <= stay <= most and stay < period, (line, period, plan))
        self.assertGreater(met, 100)


if __name__ == "__main__":
    unittest.main()
