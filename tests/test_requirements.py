"""The document's requirements 1, 2, 3 and 6, held against its definitions written out anew."""

import unittest
from itertools import product
from random import Random

from desk_helper import (
    NONE_FOUND,
    PERIODS,
    ask,
    clash,
    feasible,
    feasible_plans,
    first_plan,
    is_feasible,
    shortest_period,
    start_times,
)


def made_lines(seed, count, pit_counts, widest, speeds):
    """Lines of all sorts, the same ones every time."""
    source = Random(seed)
    lines = []
    for _ in range(count):
        windows = []
        for _ in range(source.choice(pit_counts)):
            least = source.randint(1, 30)
            windows.append((least, min(30, least + source.randint(0, widest))))
        lines.append((*source.choice(speeds), windows))
    return lines


ALL_SPEEDS = list(product(range(1, 10), range(0, 5)))
FEW_PITS = made_lines(1, 12, [0, 1, 2], 8, ALL_SPEEDS)
MANY_PITS = made_lines(2, 10, [3, 4], 2, ALL_SPEEDS)
QUICK = made_lines(3, 6, [3, 4], 2, [(1, 0), (2, 0), (1, 1), (2, 1)])
LINES = FEW_PITS + MANY_PITS + QUICK
WIDE = made_lines(4, 25, [4], 8, ALL_SPEEDS)


class FirstOfThePlans(unittest.TestCase):
    """1: first_plan is the first of the plans for which is_feasible returns 1."""

    def test_first_plan_by_the_definitions(self):
        for line in LINES:
            periods = [period for period in PERIODS if period % 3 == 0 or period < 30]
            expected = []
            for period in periods:
                plans = feasible_plans(line, period)
                expected.append([len(line[2])] + plans[0] if plans else [NONE_FOUND])
            with self.subTest(line=line):
                self.assertEqual(ask(line, [first_plan(period) for period in periods]), expected)

    def test_first_plan_among_those_that_is_feasible_takes(self):
        for line in FEW_PITS + QUICK:
            shortest = ask(line, [shortest_period()])[0][0]
            plans = list(product(*[range(least, most + 1) for least, most in line[2]]))
            for period in (shortest, shortest + 1, 60, 99):
                results = ask(line, [is_feasible(period, plan) for plan in plans])
                taken = [list(plan) for plan, result in zip(plans, results) if result == [1]]
                expected = [len(line[2])] + taken[0] if taken else [NONE_FOUND]
                with self.subTest(line=line, period=period):
                    self.assertEqual(ask(line, [first_plan(period)]), [expected])

    def test_is_feasible_by_the_definitions(self):
        source = Random(5)
        for line in LINES + WIDE:
            questions = []
            expected = []
            for _ in range(60):
                period = source.randint(1, 99)
                plan = [source.randint(max(0, least - 1), most + 1) for least, most in line[2]]
                questions.append(is_feasible(period, plan))
                expected.append([1 if feasible(line, period, plan) else 0])
            with self.subTest(line=line):
                self.assertEqual(ask(line, questions), expected)


class ShortestIsMinimal(unittest.TestCase):
    """2: the shortest period has a feasible plan, and no shorter one has."""

    def test_shortest_period_by_the_definitions(self):
        for line in LINES:
            expected = [NONE_FOUND]
            for period in PERIODS:
                if feasible_plans(line, period):
                    expected = [period]
                    break
            with self.subTest(line=line):
                self.assertEqual(ask(line, [shortest_period()]), [expected])

    def test_first_plan_refuses_all_that_is_shorter(self):
        for line in WIDE:
            shortest = ask(line, [shortest_period()])[0][0]
            results = ask(line, [first_plan(period) for period in PERIODS])
            found = [period for period, result in zip(PERIODS, results) if result != [NONE_FOUND]]
            with self.subTest(line=line):
                self.assertEqual(shortest, found[0] if found else NONE_FOUND)


class OnePlaceAtATime(unittest.TestCase):
    """3: with a feasible plan the hoist is never needed at two places."""

    def test_all_moves_of_many_lots_one_behind_another(self):
        for line in LINES + WIDE:
            shortest = ask(line, [shortest_period()])[0][0]
            for period in (shortest, 50, 70, 99):
                times = ask(line, [start_times(period)])[0] if period != NONE_FOUND else [NONE_FOUND]
                if times == [NONE_FOUND]:
                    continue
                moves = sorted((start + lot * period, move) for lot in range(12) for move, start in enumerate(times[1:]))
                for place, earlier in enumerate(moves):
                    for later in moves[place + 1 :]:
                        self.assertFalse(clash(line, earlier, later), (line, period, earlier, later))


class StaysAsPlanned(unittest.TestCase):
    """6: every lot stays in each pit as long as the plan says, and within the limits."""

    def test_times_between_the_moves(self):
        met = 0
        for line in LINES + WIDE:
            for period in range(10, 100, 7):
                plan, times = ask(line, [first_plan(period), start_times(period)])
                if plan == [NONE_FOUND]:
                    self.assertEqual(times, [NONE_FOUND])
                    continue
                met += 1
                self.assertEqual(plan[0], len(line[2]))
                self.assertEqual(times[0], len(line[2]) + 1)
                self.assertEqual(times[1], 0)
                ends = [start + line[0] for start in times[1:]]
                stays = [start - end for end, start in zip(ends, times[2:])]
                self.assertEqual(stays, plan[1:])
                for stay, (least, most) in zip(stays, line[2]):
                    self.assertTrue(least <= stay <= most and stay < period, (line, period, plan))
        self.assertGreater(met, 100)


if __name__ == "__main__":
    unittest.main()
