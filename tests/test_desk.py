"""The interface: one list of calls in, one list of answers out; and point 1."""

import unittest

from lines import BEGIN, GREATEST, LEAST, act, begins, flat, guard, picture, state, way
from statecharts import desk
from statecharts.chart import Chart

LINE = flat((
    BEGIN, state(0, 0), state(1, 0), state(1, 3), begins(0, 1), way(1, 1, 2),
    guard(0, 1, 15, LEAST), act(0, 2, 15, GREATEST), state(9, 0), BEGIN, state(0, 1),
))
TOLD = [1, 0, 1, 1, 1, 2, 1, 3, 1, 0, 1, 0, 1, 0, 1, 0, 1, -1, 1, 0, 1, 1]


class Answers(unittest.TestCase):
    def test_no_call_no_answer(self):
        self.assertEqual(desk.answers([]), [])

    def test_begin_alone(self):
        self.assertEqual(desk.answers([0]), [1, 0])

    def test_each_answer_behind_how_many_numbers_it_has(self):
        self.assertEqual(desk.answers(LINE), TOLD)

    def test_a_refusal_is_one_number(self):
        self.assertEqual(desk.answers([0, 3, 0, 0, 0]), [1, 0, 1, -1])

    def test_what_is_given_back_is_a_list_of_whole_numbers(self):
        told = desk.answers(LINE)
        self.assertIs(type(told), list)
        self.assertEqual({type(number) for number in told}, {int})

    def test_the_list_handed_in_stands_as_it_was(self):
        calls = list(LINE)
        told = desk.answers(calls)
        self.assertEqual(calls, LINE)
        self.assertIsNot(told, calls)

    def test_nothing_is_kept_from_one_time_to_the_next(self):
        self.assertEqual(desk.answers(LINE), TOLD)
        self.assertEqual(desk.answers([0, 3, 1, 1, -1]), [1, 0, 1, -1])
        self.assertEqual(desk.answers(LINE), TOLD)

    def test_an_answer_changed_by_its_reader_changes_no_later_one(self):
        desk.answers(LINE).clear()
        self.assertEqual(desk.answers(LINE), TOLD)

    def test_400_calls(self):
        self.assertEqual(desk.answers([0] * 400), [1, 0] * 400)


class Handed(unittest.TestCase):
    def test_each_number_goes_where_it_is_told(self):
        chart = Chart()
        for call, given, told in (
            (1, [0, 1], 1), (1, [1, 0], 2), (1, [0, 0], 3), (2, [0, 3], 0), (3, [2, 7, 1], 0),
            (4, [0, 3, 5, LEAST], 0), (5, [0, 2, 6, GREATEST], 0), (5, [0, 1, 4, LEAST], 0),
        ):
            self.assertEqual(desk.answer(chart, call, given), [told])
        self.assertEqual(picture(chart), (
            [(-1, 0, 3), (0, 1, -1), (1, 0, -1), (0, 0, -1)],
            [(2, 7, 1, 3, 5, LEAST, [(2, 6, GREATEST), (1, 4, LEAST)])],
            False,
        ))


class Begin(unittest.TestCase):
    def test_again_and_again(self):
        self.assertEqual(desk.answers([0, 0, 0]), [1, 0, 1, 0, 1, 0])

    def test_in_the_midst_states_are_gone(self):
        calls = flat((BEGIN, state(0, 0), state(1, 0), BEGIN, state(1, 0), state(0, 0)))
        self.assertEqual(desk.answers(calls), [1, 0, 1, 1, 1, 2, 1, 0, 1, -1, 1, 1])

    def test_in_the_midst_ways_are_gone(self):
        calls = flat((
            BEGIN, state(0, 0), way(1, 1, -1), way(1, 1, -1),
            BEGIN, state(0, 0), guard(0, 0, 0, 0), act(0, 1, 0, 0), way(1, 1, -1),
        ))
        self.assertEqual(desk.answers(calls)[-8:], [1, 1, 1, -1, 1, -1, 1, 0])

    def test_in_the_midst_a_full_chart_is_gone(self):
        calls = flat([BEGIN] + [state(0, 0)] * 64 + [BEGIN, state(0, 0)])
        self.assertEqual(desk.answers(calls)[-6:], [1, -2, 1, 0, 1, 1])

    def test_a_chart_of_0_alone_of_which_nothing_runs(self):
        chart = Chart()
        self.assertEqual(picture(chart), ([(-1, 0, -1)], [], False))

    def test_where_something_runs(self):
        chart = Chart()
        new = picture(chart)
        chart.state(0, 0)
        chart.way(1, 1, -1)
        chart.runs = True
        self.assertEqual(desk.answer(chart, 0, []), [0])
        self.assertEqual(picture(chart), new)
        self.assertEqual(desk.answer(chart, 1, [0, 0]), [1])


class Running(unittest.TestCase):
    """No call of a line makes a chart run as yet, so it is made to run by hand."""

    def setUp(self):
        self.chart = Chart()
        self.chart.state(0, 0)
        self.chart.state(1, 0)
        self.chart.way(1, 1, 2)

    def assert_refused(self, call, given):
        self.chart.runs = True
        before = picture(self.chart)
        self.assertEqual(desk.answer(self.chart, call, given), [-3])
        self.assertEqual(picture(self.chart), before)

    def test_what_else_would_be_done(self):
        for call, given in (
            (1, [0, 0]), (2, [0, 1]), (3, [1, 1, 2]), (4, [0, 1, 1, 1]), (5, [0, 1, 1, 1]),
        ):
            with self.subTest(call=call):
                self.assert_refused(call, given)

    def test_ahead_of_what_else_would_be_wrong(self):
        for call, given in (
            (1, [9, 9]), (2, [9, 9]), (3, [9, 9, 9]), (4, [9, 9, 9, 9]), (5, [9, 9, 9, 9]),
        ):
            with self.subTest(call=call):
                self.assert_refused(call, given)

    def test_ahead_of_what_else_would_be_full(self):
        while self.chart.state(0, 0) > 0:
            pass
        while self.chart.way(1, 1, 2) > 0:
            pass
        while self.chart.act(0, 1, 1, 1) == 0:
            pass
        for call, given in ((1, [0, 0]), (3, [1, 1, 2]), (5, [0, 1, 1, 1])):
            with self.subTest(call=call):
                self.assert_refused(call, given)


if __name__ == "__main__":
    unittest.main()
