"""Point 7: on."""

import unittest

from lines import GREATEST, LEAST, START, heads, last, numbers, on, picture, send, state, way
from statecharts.chart import Chart

# 1 holds 2, the histories 3 and 4, and the end 5; 6 is side by side, with 7 in it; 8 is alone.
TREE = (
    state(0, 0), state(1, 0), state(1, 3), state(1, 4), state(1, 2), state(0, 1), state(6, 0), state(0, 0),
)
LEAVINGS = (1, -1, 2, LEAST, GREATEST)


class On(unittest.TestCase):
    def test_states(self):
        for number, told in (
            (1, 0), (2, 0), (5, 0), (6, 0), (7, 0), (8, 0), (3, -1), (4, -1),
            (0, -1), (-1, -1), (9, -1), (64, -1), (LEAST, -1), (GREATEST, -1),
        ):
            for leaving in (0,) + LEAVINGS:
                with self.subTest(number=number, leaving=leaving):
                    self.assertEqual(last(*TREE, on(number, leaving, 1, 0, 0)), told)

    def test_0_alone(self):
        self.assertEqual(heads(on(0, 0, 1, 0, 0), on(0, 1, 1, 0, 0), on(1, 0, 1, 0, 0)), [-1, -1, -1])

    def test_kinds(self):
        for kind, told in ((0, 0), (1, 0), (2, 0), (-1, -1), (3, -1), (LEAST, -1), (GREATEST, -1)):
            for leaving in (0, 1):
                with self.subTest(kind=kind, leaving=leaving):
                    self.assertEqual(last(*TREE, on(1, leaving, kind, 1, 0)), told)

    def test_events_raised(self):
        for event, told in (
            (1, 0), (16, 0), (255, 0), (0, -1), (-1, -1), (256, -1), (319, -1), (LEAST, -1), (GREATEST, -1),
        ):
            for leaving in (0, 1):
                with self.subTest(event=event, leaving=leaving):
                    self.assertEqual(last(*TREE, on(1, leaving, 0, event, 0)), told)

    def test_numbers_set_and_added_to(self):
        for which, told in ((0, 0), (15, 0), (-1, -1), (16, -1), (255, -1), (LEAST, -1), (GREATEST, -1)):
            for leaving in (0, 1):
                for kind in (1, 2):
                    with self.subTest(which=which, leaving=leaving, kind=kind):
                        self.assertEqual(last(*TREE, on(1, leaving, kind, which, 0)), told)

    def test_however_much(self):
        for much in (LEAST, -1, 0, 1, GREATEST):
            for kind in range(3):
                with self.subTest(much=much, kind=kind):
                    self.assertEqual(last(*TREE, on(1, 0, kind, 1, much)), 0)

    def test_for_coming_if_leaving_is_0(self):
        self.assertEqual(numbers(*TREE, on(1, 0, 1, 3, 7), START), [0, 0, 0, 7])

    def test_for_leaving_if_leaving_is_anything_else(self):
        for leaving in LEAVINGS:
            with self.subTest(leaving=leaving):
                calls = TREE + (on(1, leaving, 1, 3, 7), way(1, 1, 8), START)
                self.assertEqual(numbers(*calls), [])
                self.assertEqual(numbers(*calls, send(1)), [0, 0, 0, 7])

    def test_each_time_that_it_is_come_to_and_left(self):
        calls = TREE + (on(8, 0, 2, 0, 1), on(8, 1, 2, 1, 10), way(1, 1, 8), way(8, 1, 8), START)
        self.assertEqual(numbers(*calls), [])
        self.assertEqual(numbers(*calls, send(1)), [1])
        self.assertEqual(numbers(*calls, send(1), send(1)), [2, 10])
        self.assertEqual(numbers(*calls, send(1), send(1), send(1)), [3, 20])

    def test_in_the_order_in_which_they_were_told(self):
        self.assertEqual(numbers(*TREE, on(1, 0, 1, 0, 5), on(1, 0, 2, 0, 1), START), [6])
        self.assertEqual(numbers(*TREE, on(1, 0, 2, 0, 1), on(1, 0, 1, 0, 5), START), [5])

    def test_an_end_is_come_to_and_left_with_its_acts(self):
        calls = TREE + (on(5, 0, 2, 0, 1), on(5, 1, 2, 1, 1), way(2, 1, 5), way(1, 2, 8), START)
        self.assertEqual(numbers(*calls, send(1)), [1])
        self.assertEqual(numbers(*calls, send(1), send(2)), [1, 1])

    def test_16_for_coming_and_16_for_leaving(self):
        coming = (on(1, 0, 2, 0, 1),) * 17
        leaving = (on(1, 1, 2, 1, 1),) * 17
        self.assertEqual(heads(*TREE, *coming, *leaving)[8:], ([0] * 16 + [-2]) * 2)
        calls = TREE + coming[1:] + leaving[1:] + (way(1, 1, 8), START)
        self.assertEqual(numbers(*calls), [16])
        self.assertEqual(numbers(*calls, send(1)), [16, 16])

    def test_16_for_leaving_whatever_leaving_is(self):
        calls = [on(1, leaving, 1, 0, 0) for leaving in LEAVINGS * 4]
        self.assertEqual(heads(*TREE, *calls)[8:], [0] * 16 + [-2] * 4)

    def test_16_of_each_state(self):
        calls = TREE + (on(1, 0, 1, 0, 0),) * 16
        self.assertEqual(heads(*calls, on(1, 0, 1, 0, 0), on(2, 0, 1, 0, 0))[-2:], [-2, 0])

    def test_wrong_ahead_of_full(self):
        full = TREE + (on(1, 0, 1, 1, 1),) * 16 + (on(1, 1, 1, 1, 1),) * 16
        for leaving in (0, 1):
            for wrong in (
                on(0, leaving, 1, 1, 1), on(9, leaving, 1, 1, 1), on(3, leaving, 1, 1, 1), on(4, leaving, 1, 1, 1),
                on(1, leaving, 3, 1, 1), on(1, leaving, -1, 1, 1), on(1, leaving, 0, 0, 1),
                on(1, leaving, 0, 256, 1), on(1, leaving, 1, 16, 1), on(1, leaving, 2, -1, 1),
            ):
                with self.subTest(wrong=wrong):
                    self.assertEqual(heads(*full, on(1, leaving, 1, 1, 1), wrong)[-2:], [-2, -1])

    def test_refused_ones_are_not_counted(self):
        calls = TREE + (on(1, 0, 0, 0, 0), on(1, 0, 3, 0, 0), on(1, 0, 1, 16, 0)) + (on(1, 0, 2, 0, 1),) * 17
        self.assertEqual(heads(*calls)[8:], [-1] * 3 + [0] * 16 + [-2])
        self.assertEqual(numbers(*calls, START), [16])

    def test_a_refusal_changes_nothing(self):
        chart = Chart()
        chart.state(0, 0)
        chart.state(1, 3)
        for leaving in (0, 1):
            while chart.on(1, leaving, 1, 2, 3) == 0:
                pass
        before = picture(chart)
        for number, kind, which, told in (
            (0, 1, 1, -1), (2, 1, 1, -1), (3, 1, 1, -1), (-1, 1, 1, -1), (1, 3, 1, -1), (1, 0, 0, -1),
            (1, 1, 16, -1), (1, 1, 1, -2),
        ):
            for leaving in (0, 1):
                self.assertEqual(chart.on(number, leaving, kind, which, 9), told)
        self.assertEqual(picture(chart), before)


if __name__ == "__main__":
    unittest.main()
