"""Points 2 and 3: state and begins."""

import unittest

from lines import GREATEST, LEAST, begins, heads, last, picture, state
from statecharts.chart import Chart


class State(unittest.TestCase):
    def test_numbered_from_1_on(self):
        self.assertEqual(heads(state(0, 0), state(0, 1), state(1, 2), state(2, 0)), [1, 2, 3, 4])

    def test_each_kind_in_an_ordinary_one(self):
        calls = [state(1, kind) for kind in range(5)]
        self.assertEqual(heads(state(0, 0), *calls), [1, 2, 3, 4, 5, 6])

    def test_kinds_in_0(self):
        for kind, told in ((0, 1), (1, 1), (2, 1), (3, -1), (4, -1)):
            with self.subTest(kind=kind):
                self.assertEqual(heads(state(0, kind)), [told])

    def test_kinds_in_one_that_is_side_by_side(self):
        for kind, told in ((0, 2), (1, 2), (2, -1), (3, 2), (4, 2)):
            with self.subTest(kind=kind):
                self.assertEqual(last(state(0, 1), state(1, kind)), told)

    def test_an_end_deeper_within_one_that_is_side_by_side(self):
        self.assertEqual(last(state(0, 1), state(1, 0), state(2, 2)), 3)

    def test_kinds_that_there_are_not(self):
        for kind in (-1, 5, LEAST, GREATEST):
            with self.subTest(kind=kind):
                self.assertEqual(heads(state(0, kind)), [-1])
                self.assertEqual(last(state(0, 0), state(1, kind)), -1)

    def test_parents_that_there_are_not(self):
        for parent in (-1, 2, 64, LEAST, GREATEST):
            with self.subTest(parent=parent):
                self.assertEqual(last(state(0, 0), state(parent, 0)), -1)

    def test_the_next_state_is_no_parent_yet(self):
        self.assertEqual(heads(state(1, 0), state(0, 0), state(1, 0)), [-1, 1, 2])

    def test_parents_that_are_ends_or_histories(self):
        for outer in (2, 3, 4):
            for kind in range(5):
                with self.subTest(outer=outer, kind=kind):
                    self.assertEqual(last(state(0, 0), state(1, outer), state(2, kind)), -1)

    def test_64_with_0(self):
        self.assertEqual(heads(*[state(0, 0)] * 66), list(range(1, 64)) + [-2] * 3)

    def test_64_within_one_another(self):
        calls = [state(number, 0) for number in range(64)]
        self.assertEqual(heads(*calls), list(range(1, 64)) + [-2])

    def test_wrong_ahead_of_full(self):
        full = [state(0, 0), state(0, 1), state(0, 2), state(1, 3)] + [state(0, 0)] * 59
        for wrong in (
            state(-1, 0), state(64, 0), state(3, 0), state(4, 0), state(0, 5), state(0, -1),
            state(0, 3), state(0, 4), state(2, 2),
        ):
            with self.subTest(wrong=wrong):
                self.assertEqual(heads(*full, state(0, 0), wrong)[-2:], [-2, -1])

    def test_a_refusal_takes_no_number(self):
        self.assertEqual(heads(state(0, 3), state(0, 0), state(1, 5), state(7, 0), state(1, 3)),
                         [-1, 1, -1, -1, 2])

    def test_a_refusal_changes_nothing(self):
        chart = Chart()
        chart.state(0, 1)
        before = picture(chart)
        for parent, kind in ((0, 3), (1, 2), (2, 0), (0, 5)):
            self.assertEqual(chart.state(parent, kind), -1)
        self.assertEqual(picture(chart), before)
        while chart.state(0, 0) > 0:
            pass
        before = picture(chart)
        self.assertEqual(chart.state(0, 0), -2)
        self.assertEqual(picture(chart), before)

    def test_parent_and_kind_are_kept(self):
        chart = Chart()
        chart.state(0, 1)
        chart.state(1, 4)
        self.assertEqual(picture(chart)[0], [(-1, 0, -1), (0, 1, -1), (1, 4, -1)])


class Begins(unittest.TestCase):
    def test_each_part_of_0(self):
        calls = (state(0, 0), state(0, 1), state(0, 2))
        for part in (1, 2, 3):
            with self.subTest(part=part):
                self.assertEqual(last(*calls, begins(0, part)), 0)

    def test_each_part_of_another_ordinary_one(self):
        calls = (state(0, 0), state(1, 0), state(1, 1), state(1, 2))
        for part in (2, 3, 4):
            with self.subTest(part=part):
                self.assertEqual(last(*calls, begins(1, part)), 0)

    def test_states_that_there_are_not(self):
        for number in (-1, 3, 64, LEAST, GREATEST):
            with self.subTest(number=number):
                self.assertEqual(last(state(0, 0), state(1, 0), begins(number, 2)), -1)
                self.assertEqual(last(state(0, 0), state(1, 0), begins(1, number)), -1)

    def test_0_alone(self):
        self.assertEqual(heads(begins(0, 0)), [-1])
        self.assertEqual(heads(begins(-1, 0)), [-1])
        self.assertEqual(heads(begins(0, -1)), [-1])

    def test_states_that_are_not_ordinary(self):
        self.assertEqual(last(state(0, 1), state(1, 0), begins(1, 2)), -1)
        for kind in (2, 3, 4):
            with self.subTest(kind=kind):
                self.assertEqual(last(state(0, 0), state(1, kind), begins(2, 1)), -1)
                self.assertEqual(last(state(0, 0), state(1, kind), begins(2, 2)), -1)

    def test_histories_are_no_parts(self):
        for kind in (3, 4):
            with self.subTest(kind=kind):
                self.assertEqual(last(state(0, 0), state(1, kind), begins(1, 2)), -1)

    def test_what_is_no_part_of_it(self):
        calls = (state(0, 0), state(1, 0), state(2, 0), state(0, 0))
        for number, part in ((0, 2), (0, 3), (0, 0), (1, 3), (1, 1), (1, 0), (1, 4), (2, 1), (4, 1)):
            with self.subTest(number=number, part=part):
                self.assertEqual(last(*calls, begins(number, part)), -1)

    def test_the_beginning_is_the_part_told_last_else_the_first(self):
        chart = Chart()
        self.assertEqual(chart.beginning(0), -1)
        for parent, kind in ((0, 0), (1, 3), (1, 0), (1, 0), (0, 0)):
            chart.state(parent, kind)
        self.assertEqual([chart.beginning(number) for number in (0, 1, 3)], [1, 3, -1])
        self.assertEqual(chart.begins(1, 4), 0)
        self.assertEqual([chart.beginning(number) for number in (0, 1, 3)], [1, 4, -1])
        self.assertEqual(chart.begins(0, 5), 0)
        self.assertEqual(chart.begins(1, 3), 0)
        self.assertEqual([chart.beginning(number) for number in (0, 1, 3)], [5, 3, -1])

    def test_a_refusal_changes_nothing(self):
        chart = Chart()
        for parent, kind in ((0, 0), (1, 0), (1, 0), (1, 4), (0, 1), (5, 0)):
            chart.state(parent, kind)
        chart.begins(1, 3)
        before = picture(chart)
        for number, part in ((1, 4), (1, 5), (1, 1), (5, 6), (9, 1), (1, 9), (1, -1)):
            self.assertEqual(chart.begins(number, part), -1)
        self.assertEqual(picture(chart), before)


if __name__ == "__main__":
    unittest.main()
