"""The interface: one list of calls in, one list of answers out; and point 1."""

import unittest

from lines import (
    BEGIN, GREATEST, LEAST, START, act, begins, flat, guard, is_in, number, on, picture, send, state, take, way,
)
from statecharts import desk
from statecharts.chart import Chart

# Each call once at least, each kind of answer, and a refusal of each number.
CALLS_AND_ANSWERS = (
    (BEGIN, [0]),
    (send(1), [-4]),
    (state(0, 0), [1]),
    (state(1, 0), [2]),
    (state(1, 3), [3]),
    (begins(0, 1), [0]),
    (way(1, 1, 2), [0]),
    (guard(0, 1, 15, 0), [0]),
    (act(0, 2, 15, GREATEST), [0]),
    (on(2, 0, 2, 14, -5), [0]),
    (state(9, 0), [-1]),
    (START, [0]),
    (START, [-3]),
    (take(1), [1, 1]),
    (number(14), [0, -5]),
    (send(1), [0]),
    (number(15), [0, GREATEST]),
    (number(14), [0, -10]),
    (number(16), [-1]),
    (is_in(2), [1]),
    (is_in(3), [0]),
    (take(2), [2, 2, 258]),
    (take(0), [0]),
    (take(9), [3, 257, 1, 2]),
    (take(9), [0]),
    (BEGIN, [0]),
    (state(0, 2), [1]),
    (START, [0]),
    (send(1), [-5]),
    (take(65536), [1, 1]),
)
LINE = flat([call for call, told in CALLS_AND_ANSWERS])
TOLD = flat([[len(told)] + told for call, told in CALLS_AND_ANSWERS])


class Answers(unittest.TestCase):
    def test_no_call_no_answer(self):
        self.assertEqual(desk.answers([]), [])

    def test_begin_alone(self):
        self.assertEqual(desk.answers([0]), [1, 0])

    def test_each_answer_behind_how_many_numbers_it_has(self):
        self.assertEqual(desk.answers(LINE), TOLD)

    def test_a_refusal_is_one_number(self):
        self.assertEqual(desk.answers([0, 3, 0, 0, 0]), [1, 0, 1, -1])

    def test_what_is_given_back_is_a_list_of_whole_numbers(self):
        told = desk.answers(LINE)
        self.assertIs(type(told), list)
        self.assertEqual({type(number) for number in told}, {int})

    def test_the_list_handed_in_stands_as_it_was(self):
        calls = list(LINE)
        told = desk.answers(calls)
        self.assertEqual(calls, LINE)
        self.assertIsNot(told, calls)

    def test_nothing_is_kept_from_one_time_to_the_next(self):
        self.assertEqual(desk.answers(LINE), TOLD)
        self.assertEqual(desk.answers([0, 3, 1, 1, -1]), [1, 0, 1, -1])
        self.assertEqual(desk.answers(LINE), TOLD)

    def test_an_answer_changed_by_its_reader_changes_no_later_one(self):
        desk.answers(LINE).clear()
        self.assertEqual(desk.answers(LINE), TOLD)

    def test_400_calls(self):
        self.assertEqual(desk.answers([0] * 400), [1, 0] * 400)

    def test_400_calls_10_of_them_take(self):
        # 63 states within one another, each left and come to once a step.
        chart = [BEGIN] + [state(one, 0) for one in range(63)] + [way(1, 1, 1), START]
        calls = chart + [send(1)] * (400 - len(chart) - 10) + [take(65536)] * 10
        self.assertEqual(len(calls), 400)
        there = list(range(1, 64))
        back = [256 + one for one in reversed(there)]
        trail = there + (back + there) * (len(calls) - len(chart) - 10)
        told = desk.answers(flat(calls))
        self.assertEqual(told[-len(trail) - 20:], [len(trail) + 1, len(trail)] + trail + [1, 0] * 9)


class Handed(unittest.TestCase):
    def test_each_number_goes_where_it_is_told(self):
        chart = Chart()
        for call, given, told in (
            (1, [0, 1], 1), (1, [1, 0], 2), (1, [0, 0], 3), (2, [0, 3], 0), (3, [2, 7, 1], 0),
            (4, [0, 3, 5, LEAST], 0), (5, [0, 2, 6, GREATEST], 0), (5, [0, 1, 4, LEAST], 0),
            (6, [2, 0, 1, 7, LEAST], 0), (6, [2, 1, 0, 8, GREATEST], 0), (6, [3, 0, 2, 9, 1], 0),
        ):
            self.assertEqual(desk.answer(chart, call, given), [told])
        self.assertEqual(picture(chart), (
            [(-1, 0, 3), (0, 1, -1), (1, 0, -1), (0, 0, -1)],
            [(2, 7, 1, 3, 5, LEAST, [(2, 6, GREATEST), (1, 4, LEAST)])],
            [([], []), ([], []), ([(1, 7, LEAST)], [(0, 8, GREATEST)]), ([(2, 9, 1)], [])],
            False,
        ))


class Begin(unittest.TestCase):
    def test_again_and_again(self):
        self.assertEqual(desk.answers([0, 0, 0]), [1, 0, 1, 0, 1, 0])

    def test_in_the_midst_states_are_gone(self):
        calls = flat((BEGIN, state(0, 0), state(1, 0), BEGIN, state(1, 0), state(0, 0)))
        self.assertEqual(desk.answers(calls), [1, 0, 1, 1, 1, 2, 1, 0, 1, -1, 1, 1])

    def test_in_the_midst_ways_are_gone(self):
        calls = flat((
            BEGIN, state(0, 0), way(1, 1, -1), way(1, 1, -1),
            BEGIN, state(0, 0), guard(0, 0, 0, 0), act(0, 1, 0, 0), way(1, 1, -1),
        ))
        self.assertEqual(desk.answers(calls)[-8:], [1, 1, 1, -1, 1, -1, 1, 0])

    def test_in_the_midst_a_full_chart_is_gone(self):
        calls = flat([BEGIN] + [state(0, 0)] * 64 + [BEGIN, state(0, 0)])
        self.assertEqual(desk.answers(calls)[-6:], [1, -2, 1, 0, 1, 1])

    def test_a_chart_of_0_alone_of_which_nothing_runs(self):
        chart = Chart()
        self.assertEqual(picture(chart), ([(-1, 0, -1)], [], [([], [])], False))


if __name__ == "__main__":
    unittest.main()
