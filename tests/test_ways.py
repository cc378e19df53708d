"""Points 4, 5 and 6: way, guard and act."""

import unittest

from lines import GREATEST, LEAST, act, guard, heads, last, picture, state, way
from statecharts.chart import Chart

# 1 holds 2 (ordinary, holding 3), the end 4, and the histories 5 and 6; 7 runs side by side,
# with 8, 9 and the history 10 in it.
TREE = (
    state(0, 0), state(1, 0), state(2, 0), state(1, 2), state(1, 3), state(1, 4),
    state(0, 1), state(7, 0), state(7, 0), state(7, 3),
)
ONE = (state(0, 0), way(1, 1, -1))


def one_way():
    chart = Chart()
    chart.state(0, 0)
    chart.way(1, 1, -1)
    return chart


class Way(unittest.TestCase):
    def test_numbered_from_0_on(self):
        self.assertEqual(heads(state(0, 0), way(1, 1, 1), way(1, 1, 1), way(1, 2, -1)), [1, 0, 1, 2])

    def test_sources_that_lead(self):
        for source in (1, 2, 3, 7, 8):
            for target in (1, 2, 3, 4, 5, 6, 7, 9, 10, -1):
                with self.subTest(source=source, target=target):
                    self.assertEqual(last(*TREE, way(source, 1, target)), 0)

    def test_sources_and_targets_that_there_are_not_or_0(self):
        for number in (0, 11, 64, -2, LEAST, GREATEST):
            with self.subTest(number=number):
                self.assertEqual(last(*TREE, way(number, 1, 1)), -1)
                self.assertEqual(last(*TREE, way(1, 1, number)), -1)

    def test_no_source_is_wrong(self):
        self.assertEqual(last(*TREE, way(-1, 1, 1)), -1)
        self.assertEqual(last(*TREE, way(-1, 1, -1)), -1)

    def test_an_end_as_source(self):
        for target in (1, 3, 4, 5, -1):
            with self.subTest(target=target):
                self.assertEqual(last(*TREE, way(4, 1, target)), -1)

    def test_events(self):
        for event, told in (
            (0, 0), (1, 0), (255, 0), (256, 0), (257, 0), (319, 0),
            (-1, -1), (320, -1), (LEAST, -1), (GREATEST, -1),
        ):
            with self.subTest(event=event):
                self.assertEqual(last(*TREE, way(1, event, 2)), told)

    def test_without_a_target(self):
        for event, told in ((0, -1), (1, 0), (256, 0), (319, 0), (-1, -1), (320, -1)):
            with self.subTest(event=event):
                self.assertEqual(last(*TREE, way(1, event, -1)), told)

    def test_a_history_as_source(self):
        for source in (5, 6):
            for target, told in (
                (2, 0), (3, 0), (4, 0),
                (1, -1), (5, -1), (6, -1), (7, -1), (8, -1), (10, -1), (0, -1), (11, -1), (-1, -1),
            ):
                for event in (0, 1, 319):
                    with self.subTest(source=source, target=target, event=event):
                        self.assertEqual(last(*TREE, way(source, event, target)), told)

    def test_a_history_in_one_that_is_side_by_side_as_source(self):
        for target, told in ((8, 0), (9, 0), (10, -1), (7, -1), (3, -1), (-1, -1)):
            with self.subTest(target=target):
                self.assertEqual(last(*TREE, way(10, 0, target)), told)

    def test_a_history_as_source_without_a_target(self):
        calls = (state(0, 0), state(1, 3), state(1, 0))
        for event in (0, 1, 319):
            with self.subTest(event=event):
                self.assertEqual(last(*calls, way(2, event, -1)), -1)

    def test_a_history_deep_within_leads_not_outward(self):
        calls = (state(0, 0), state(1, 0), state(2, 0), state(2, 4), state(1, 0))
        for target, told in ((3, 0), (1, -1), (2, -1), (5, -1)):
            with self.subTest(target=target):
                self.assertEqual(last(*calls, way(4, 0, target)), told)

    def test_a_history_as_source_by_an_event_that_there_is_not(self):
        self.assertEqual(last(*TREE, way(5, 320, 2)), -1)
        self.assertEqual(last(*TREE, way(5, -1, 2)), -1)

    def test_256(self):
        told = heads(state(0, 0), *[way(1, 1, -1)] * 258)
        self.assertEqual(told, [1] + list(range(256)) + [-2, -2])

    def test_wrong_ahead_of_full(self):
        full = TREE + (way(1, 1, 1),) * 256
        for wrong in (
            way(0, 1, 1), way(11, 1, 1), way(1, 1, 0), way(1, 1, 11), way(4, 1, 1),
            way(1, 320, 1), way(1, -1, 1), way(1, 0, -1), way(5, 0, 7), way(5, 0, 6), way(5, 1, -1),
        ):
            with self.subTest(wrong=wrong):
                self.assertEqual(heads(*full, way(1, 1, 1), wrong)[-2:], [-2, -1])

    def test_a_refusal_takes_no_number(self):
        self.assertEqual(heads(state(0, 0), way(1, 0, -1), way(1, 1, -1), way(2, 1, 1), way(1, 2, 1)),
                         [1, -1, 0, -1, 1])

    def test_a_refusal_changes_nothing(self):
        chart = one_way()
        before = picture(chart)
        for source, event, target in ((0, 1, 1), (1, 1, 2), (1, 320, 1), (1, 0, -1)):
            self.assertEqual(chart.way(source, event, target), -1)
        self.assertEqual(picture(chart), before)
        while chart.way(1, 1, 1) > 0:
            pass
        before = picture(chart)
        self.assertEqual(chart.way(1, 1, 1), -2)
        self.assertEqual(picture(chart), before)

    def test_what_is_told_is_kept_and_nothing_is_asked(self):
        chart = one_way()
        chart.way(1, 319, 1)
        self.assertEqual(picture(chart)[1], [(1, 1, -1, 0, 0, 0, []), (1, 319, 1, 0, 0, 0, [])])


class Guard(unittest.TestCase):
    def test_asks(self):
        for ask, told in (
            (0, 0), (1, 0), (2, 0), (3, 0), (-1, -1), (4, -1), (LEAST, -1), (GREATEST, -1),
        ):
            with self.subTest(ask=ask):
                self.assertEqual(last(*ONE, guard(0, ask, 0, 0)), told)

    def test_numbers(self):
        for which, told in ((0, 0), (15, 0), (-1, -1), (16, -1), (LEAST, -1), (GREATEST, -1)):
            for ask in range(4):
                with self.subTest(which=which, ask=ask):
                    self.assertEqual(last(*ONE, guard(0, ask, which, 0)), told)

    def test_however_much(self):
        for much in (LEAST, -1, 0, 1, GREATEST):
            with self.subTest(much=much):
                self.assertEqual(last(*ONE, guard(0, 1, 0, much)), 0)
                chart = one_way()
                chart.guard(0, 1, 0, much)
                self.assertEqual(chart.ways[0].much, much)

    def test_ways_that_there_are_not(self):
        for number in (-1, 1, 256, LEAST, GREATEST):
            with self.subTest(number=number):
                self.assertEqual(last(*ONE, guard(number, 1, 0, 0)), -1)
        self.assertEqual(heads(guard(0, 1, 0, 0)), [-1])

    def test_the_last_of_256_ways(self):
        calls = (state(0, 0),) + (way(1, 1, -1),) * 256
        self.assertEqual(last(*calls, guard(255, 1, 0, 0)), 0)
        self.assertEqual(last(*calls, guard(256, 1, 0, 0)), -1)

    def test_the_way_asks_what_was_told_last(self):
        chart = one_way()
        chart.way(1, 2, 1)
        self.assertEqual(chart.guard(1, 3, 15, -7), 0)
        self.assertEqual(picture(chart)[1], [(1, 1, -1, 0, 0, 0, []), (1, 2, 1, 3, 15, -7, [])])
        self.assertEqual(chart.guard(1, 2, 4, 9), 0)
        self.assertEqual(picture(chart)[1][1], (1, 2, 1, 2, 4, 9, []))

    def test_a_refusal_changes_nothing(self):
        chart = one_way()
        chart.guard(0, 1, 2, 3)
        before = picture(chart)
        for number, ask, which in ((1, 1, 1), (-1, 1, 1), (0, 4, 1), (0, -1, 1), (0, 1, 16), (0, 1, -1)):
            self.assertEqual(chart.guard(number, ask, which, 9), -1)
        self.assertEqual(picture(chart), before)


class Act(unittest.TestCase):
    def test_kinds(self):
        for kind, told in (
            (0, 0), (1, 0), (2, 0), (-1, -1), (3, -1), (LEAST, -1), (GREATEST, -1),
        ):
            with self.subTest(kind=kind):
                self.assertEqual(last(*ONE, act(0, kind, 1, 0)), told)

    def test_events_raised(self):
        for event, told in (
            (1, 0), (16, 0), (255, 0), (0, -1), (-1, -1), (256, -1), (319, -1), (LEAST, -1), (GREATEST, -1),
        ):
            with self.subTest(event=event):
                self.assertEqual(last(*ONE, act(0, 0, event, 0)), told)

    def test_numbers_set_and_added_to(self):
        for which, told in ((0, 0), (15, 0), (-1, -1), (16, -1), (255, -1), (LEAST, -1), (GREATEST, -1)):
            for kind in (1, 2):
                with self.subTest(which=which, kind=kind):
                    self.assertEqual(last(*ONE, act(0, kind, which, 0)), told)

    def test_however_much(self):
        for much in (LEAST, -1, 0, 1, GREATEST):
            for kind in range(3):
                with self.subTest(much=much, kind=kind):
                    self.assertEqual(last(*ONE, act(0, kind, 1, much)), 0)
                    chart = one_way()
                    chart.act(0, kind, 1, much)
                    self.assertEqual(chart.ways[0].acts, [(kind, 1, much)])

    def test_ways_that_there_are_not(self):
        for number in (-1, 1, 256, LEAST, GREATEST):
            with self.subTest(number=number):
                self.assertEqual(last(*ONE, act(number, 1, 0, 0)), -1)
        self.assertEqual(heads(act(0, 1, 0, 0)), [-1])

    def test_16_of_a_way(self):
        self.assertEqual(heads(*ONE, *[act(0, 1, 1, 1)] * 18), [1, 0] + [0] * 16 + [-2, -2])

    def test_16_of_each_way(self):
        calls = ONE + (way(1, 2, -1),) + (act(0, 1, 1, 1),) * 16
        self.assertEqual(heads(*calls, act(0, 0, 1, 1), act(1, 1, 1, 1))[-2:], [-2, 0])

    def test_wrong_ahead_of_full(self):
        full = ONE + (act(0, 1, 1, 1),) * 16
        for wrong in (
            act(1, 1, 1, 1), act(-1, 1, 1, 1), act(0, 3, 1, 1), act(0, -1, 1, 1),
            act(0, 0, 0, 1), act(0, 0, 256, 1), act(0, 1, 16, 1), act(0, 2, -1, 1),
        ):
            with self.subTest(wrong=wrong):
                self.assertEqual(heads(*full, act(0, 1, 1, 1), wrong)[-2:], [-2, -1])

    def test_refused_ones_are_not_counted(self):
        calls = ONE + (act(0, 0, 0, 0), act(0, 3, 0, 0), act(0, 1, 16, 0)) + (act(0, 1, 1, 1),) * 17
        self.assertEqual(heads(*calls), [1, 0, -1, -1, -1] + [0] * 16 + [-2])

    def test_acts_are_kept_in_order_by_way(self):
        chart = one_way()
        chart.way(1, 2, 1)
        for number, kind, which, much in ((1, 2, 15, LEAST), (0, 0, 255, 4), (1, 1, 0, GREATEST)):
            self.assertEqual(chart.act(number, kind, which, much), 0)
        self.assertEqual(chart.ways[0].acts, [(0, 255, 4)])
        self.assertEqual(chart.ways[1].acts, [(2, 15, LEAST), (1, 0, GREATEST)])

    def test_a_refusal_changes_nothing(self):
        chart = one_way()
        chart.act(0, 1, 2, 3)
        before = picture(chart)
        for number, kind, which in ((1, 1, 1), (-1, 1, 1), (0, 3, 1), (0, 0, 0), (0, 1, 16)):
            self.assertEqual(chart.act(number, kind, which, 9), -1)
        self.assertEqual(picture(chart), before)
        while chart.act(0, 1, 1, 1) == 0:
            pass
        before = picture(chart)
        self.assertEqual(chart.act(0, 1, 1, 1), -2)
        self.assertEqual(picture(chart), before)


if __name__ == "__main__":
    unittest.main()
