"""The interface: how calls are handed in and answers given back."""

import unittest

from desk_helper import (
    NO_LINE,
    add_pit,
    create,
    first_plan,
    get_pit,
    is_feasible,
    remove_pit,
    run,
    set_speed,
    set_window,
    shortest_period,
    start_times,
)
from hoistmoves.desk import answers

EXAMPLE = [
    (create(2, 1), [0]),
    (add_pit(5, 8), [0]),
    (add_pit(3, 10), [1]),
    (shortest_period(), [11]),
    (first_plan(11), [2, 5, 5]),
    (start_times(11), [3, 0, 7, 14]),
    (is_feasible(10, [5, 3]), [0]),
    (add_pit(5, 14), [-22]),
    (first_plan(0), [-22]),
]


class Example(unittest.TestCase):
    def test_lines_of_the_document(self):
        calls = [call for call, answer in EXAMPLE]
        self.assertEqual(run(calls), [answer for call, answer in EXAMPLE])


class Layout(unittest.TestCase):
    def test_count_ahead_of_each_answer(self):
        calls = [0, 2, 2, 1, 0, 1, 2, 5, 8, 0, 1, 2, 3, 10, 0, 5, 1, 1, 0, 7, 1, 11, 0, 7, 1, 0, 0]
        self.assertEqual(answers(calls), [1, 0, 1, 0, 1, 1, 2, 3, 10, 3, 2, 5, 5, 1, -22])

    def test_single_call(self):
        self.assertEqual(answers([0, 2, 1, 0, 0]), [1, 0])
        self.assertEqual(answers([6, 0, 0]), [1, NO_LINE])

    def test_calls_without_numbers(self):
        self.assertEqual(answers([0, 2, 3, 2, 0, 6, 0, 0, 6, 0, 0]), [1, 0, 1, 5, 1, 5])

    def test_plan_is_told_by_the_count_of_numbers(self):
        self.assertEqual(answers([0, 2, 3, 2, 0, 9, 1, 5, 0, 9, 2, 5, 0, 0]), [1, 0, 1, 1, 1, -22])
        self.assertEqual(answers([0, 2, 3, 2, 0, 9, 7, 5, 9, 9, 9, 9, 9, 9, 0, 6, 0, 0]), [1, 0, 1, -22, 1, 5])

    def test_every_answer_is_a_plain_whole_number(self):
        calls = [call for call, answer in EXAMPLE] + [
            is_feasible(11, [5, 5]),
            set_window(0, 5, 9),
            set_speed(2, 1),
            get_pit(0),
            remove_pit(0),
        ]
        given_back = answers([number for call in calls for number in call])
        self.assertIs(type(given_back), list)
        self.assertEqual({type(number) for number in given_back}, {int})

    def test_sixty_calls_with_six_hundred_numbers(self):
        calls = [create(2, 1)] + [add_pit(5, 8)] * 4 + [is_feasible(11, [5] * 6)] * 53 + [get_pit(3)] * 2
        self.assertEqual(len(calls), 60)
        self.assertEqual(run(calls), [[0], [0], [1], [2], [3]] + [[-22]] * 53 + [[5, 8]] * 2)


class NothingChangedOrKept(unittest.TestCase):
    def flat(self):
        calls = [call for call, answer in EXAMPLE] + [
            set_window(0, 4, 9),
            set_speed(3, 2),
            remove_pit(1),
            remove_pit(9),
            is_feasible(11, [5]),
            create(0, 0),
            create(1, 0),
        ]
        return [number for call in calls for number in call]

    def test_calls_stand_as_they_were(self):
        calls = self.flat()
        answers(calls)
        self.assertEqual(calls, self.flat())

    def test_calls_stand_as_they_were_all_the_while(self):
        class Watched(list):
            def refuse(self, *words, **more):
                raise AssertionError("what is handed in was changed")

            __setitem__ = __delitem__ = __iadd__ = __imul__ = refuse
            append = extend = insert = pop = remove = clear = sort = reverse = refuse

        self.assertEqual(answers(Watched(self.flat())), answers(self.flat()))

    def test_second_time_begins_without_a_line(self):
        self.assertEqual(run([create(2, 1), add_pit(5, 8)]), [[0], [0]])
        self.assertEqual(run([get_pit(0), add_pit(5, 8)]), [[NO_LINE], [NO_LINE]])

    def test_second_time_answers_the_same(self):
        first = answers(self.flat())
        kept = list(first)
        second = answers(self.flat())
        self.assertEqual(second, kept)
        self.assertEqual(first, kept)
        self.assertIsNot(first, second)

    def test_second_time_begins_without_pits(self):
        for _ in range(2):
            self.assertEqual(run([create(2, 1), get_pit(0), add_pit(5, 8)]), [[0], [-2], [0]])


if __name__ == "__main__":
    unittest.main()
