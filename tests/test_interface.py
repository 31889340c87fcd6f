"""The interface: how calls are handed in and answers given back."""

import unittest

from desk_helper import (
    NO_LINE,
    add_pit,
    completion_time,
    create,
    feasible_periods,
    first_conflict,
    first_plan,
    get_pit,
    is_feasible,
    max_occupied,
    plan_count,
    remove_pit,
    run,
    set_speed,
    set_window,
    shortest_period,
    shortest_period_with_speed,
    shortest_period_with_window,
    start_times,
    status,
    throughput_time,
)
from hoistmoves.desk import answers

EXAMPLE = [
    (create(2, 1), [0]),
    (add_pit(5, 8), [0]),
    (add_pit(3, 10), [1]),
    (status(), [2, 2, 1, 11]),
    (shortest_period(), [11]),
    (first_plan(11), [2, 5, 5]),
    (start_times(11), [3, 0, 7, 14]),
    (throughput_time(11), [16]),
    (is_feasible(10, [5, 3]), [0]),
    (first_conflict(10, [5, 3]), [0, 1]),
    (add_pit(5, 14), [-22]),
    (first_plan(0), [-22]),
]

# The calls that the document's example leaves out, on its line.
QUESTIONS = [
    (plan_count(12), [3]),
    (max_occupied(11), [2]),
    (completion_time(11, 99), [1094]),
    (shortest_period_with_window(0, 9, 9), [15]),
    (shortest_period_with_speed(9, 4), [47]),
    (feasible_periods(), [89, *range(11, 100)]),
    (get_pit(1), [3, 10]),
]


class Example(unittest.TestCase):
    def test_lines_of_the_document(self):
        calls = [call for call, answer in EXAMPLE]
        self.assertEqual(run(calls), [answer for call, answer in EXAMPLE])

    def test_other_questions_about_its_line(self):
        calls = [call for call, answer in EXAMPLE + QUESTIONS]
        self.assertEqual(run(calls), [answer for call, answer in EXAMPLE + QUESTIONS])


class Layout(unittest.TestCase):
    def test_count_ahead_of_each_answer(self):
        calls = [0, 2, 2, 1, 0, 1, 2, 5, 8, 0, 1, 2, 3, 10, 0, 5, 1, 1, 0, 7, 1, 11, 0, 7, 1, 0, 0]
        self.assertEqual(answers(calls), [1, 0, 1, 0, 1, 1, 2, 3, 10, 3, 2, 5, 5, 1, -22])

    def test_single_call(self):
        self.assertEqual(answers([0, 2, 1, 0, 0]), [1, 0])
        self.assertEqual(answers([6, 0, 0]), [1, NO_LINE])

    def test_calls_without_numbers(self):
        self.assertEqual(answers([0, 2, 3, 2, 0, 6, 0, 0, 6, 0, 0]), [1, 0, 1, 5, 1, 5])
        self.assertEqual(answers([0, 2, 3, 2, 0, 18, 0, 0, 6, 0, 0]), [1, 0, 4, 0, 3, 2, 5, 1, 5])
        given_back = answers([0, 2, 9, 4, 0, 17, 0, 0, 6, 0, 0])
        self.assertEqual(given_back, [1, 0, 88, 87, *range(13, 100), 1, 13])

    def test_plan_is_told_by_the_count_of_numbers(self):
        self.assertEqual(answers([0, 2, 3, 2, 0, 9, 1, 5, 0, 9, 2, 5, 0, 0]), [1, 0, 1, 1, 1, -22])
        self.assertEqual(answers([0, 2, 3, 2, 0, 9, 7, 5, 9, 9, 9, 9, 9, 9, 0, 6, 0, 0]), [1, 0, 1, -22, 1, 5])
        self.assertEqual(answers([0, 2, 3, 2, 0, 10, 1, 5, 0, 10, 2, 5, 0, 0]), [1, 0, 1, -33, 1, -22])
        calls = [0, 2, 2, 1, 0, 1, 2, 5, 8, 0, 1, 2, 3, 10, 0, 10, 3, 10, 5, 3, 0, 10, 7, 10, 5, 3, 5, 3, 5, 3, 0]
        self.assertEqual(answers(calls), [1, 0, 1, 0, 1, 1, 2, 0, 1, 1, -22])

    def test_every_answer_is_a_plain_whole_number(self):
        calls = [call for call, answer in EXAMPLE + QUESTIONS] + [
            is_feasible(11, [5, 5]),
            set_window(0, 5, 9),
            set_speed(2, 1),
            get_pit(0),
            remove_pit(0),
        ]
        given_back = answers([number for call in calls for number in call])
        self.assertIs(type(given_back), list)
        self.assertEqual({type(number) for number in given_back}, {int})

    def test_sixty_calls_with_six_hundred_numbers(self):
        calls = [create(2, 1)] + [add_pit(5, 8)] * 4 + [is_feasible(11, [5] * 6)] * 53 + [get_pit(3)] * 2
        self.assertEqual(len(calls), 60)
        self.assertEqual(run(calls), [[0], [0], [1], [2], [3]] + [[-22]] * 53 + [[5, 8]] * 2)


class NothingChangedOrKept(unittest.TestCase):
    def flat(self):
        calls = [call for call, answer in EXAMPLE + QUESTIONS] + [
            set_window(0, 4, 9),
            set_speed(3, 2),
            remove_pit(1),
            remove_pit(9),
            is_feasible(11, [5]),
            first_conflict(11, [0]),
            shortest_period_with_window(1, 5, 9),
            shortest_period_with_speed(0, 0),
            create(0, 0),
            create(1, 0),
        ]
        return [number for call in calls for number in call]

    def test_calls_stand_as_they_were(self):
        calls = self.flat()
        answers(calls)
        self.assertEqual(calls, self.flat())

    def test_calls_stand_as_they_were_all_the_while(self):
        class Watched(list):
            def refuse(self, *words, **more):
                raise AssertionError("what is handed in was changed")

            __setitem__ = __delitem__ = __iadd__ = __imul__ = refuse
            append = extend = insert = pop = remove = clear = sort = reverse = refuse

        self.assertEqual(answers(Watched(self.flat())), answers(self.flat()))

    def test_second_time_begins_without_a_line(self):
        self.assertEqual(run([create(2, 1), add_pit(5, 8)]), [[0], [0]])
        self.assertEqual(run([get_pit(0), add_pit(5, 8), status(), feasible_periods()]), [[NO_LINE]] * 4)

    def test_second_time_answers_the_same(self):
        first = answers(self.flat())
        kept = list(first)
        second = answers(self.flat())
        self.assertEqual(second, kept)
        self.assertEqual(first, kept)
        self.assertIsNot(first, second)

    def test_second_time_begins_without_pits(self):
        for _ in range(2):
            self.assertEqual(run([create(2, 1), get_pit(0), add_pit(5, 8)]), [[0], [-2], [0]])


if __name__ == "__main__":
    unittest.main()
