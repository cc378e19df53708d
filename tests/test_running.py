"""Point 1 where something runs, by calls alone; begin in the midst of a list; and refusals that change nothing."""

import unittest

from lines import (
    ALL, BEGIN, GREATEST, LEAST, START, act, begins, flat, guard, is_in, last_row, number, on, rows, send, state,
    take, way,
)
from statecharts.desk import answers

# 1 holds 2, 3 and the history 4; 5 is side by side, with 6; 7 is the end of it all.
CHART = (
    state(0, 0), state(1, 0), state(1, 0), state(1, 3), state(0, 1), state(5, 0), state(0, 2),
    way(2, 1, 3), way(1, 2, 5), way(5, 3, 4), way(1, 4, 7), act(0, 2, 0, 1), on(3, 0, 2, 1, 1),
)
TELLING = (
    state(0, 0), begins(1, 3), way(2, 1, 5), guard(0, 1, 0, 9), act(0, 2, 0, 5), on(3, 0, 2, 1, 5),
    on(2, 1, 2, 1, 5), START,
)
WRONG = (
    state(9, 9), begins(9, 9), way(9, 9, 9), guard(9, 9, 9, 9), act(9, 9, 9, 9), on(9, 9, 9, 9, 9),
    state(LEAST, GREATEST), way(0, 0, 0), on(0, 0, 0, 0, 0), on(4, 0, 1, 1, 1),
)
LOOK = tuple(is_in(one) for one in range(8)) + (number(0), number(1), take(ALL))


class Running(unittest.TestCase):
    def test_what_else_would_be_done(self):
        for call in TELLING:
            with self.subTest(call=call):
                self.assertGreaterEqual(last_row(*CHART, call)[0], 0)
                self.assertEqual(last_row(*CHART, START, call), [-3])

    def test_ahead_of_what_else_would_be_wrong(self):
        for call in WRONG:
            with self.subTest(call=call):
                self.assertEqual(last_row(*CHART, call), [-1])
                self.assertEqual(last_row(*CHART, START, call), [-3])

    def test_ahead_of_what_else_would_be_full(self):
        for full, call in (
            ((state(0, 0),) * 56, state(0, 0)), ((way(1, 1, 2),) * 252, way(1, 1, 2)),
            ((act(0, 1, 1, 1),) * 15, act(0, 1, 1, 1)), ((on(3, 0, 1, 1, 1),) * 15, on(3, 0, 1, 1, 1)),
        ):
            with self.subTest(call=call):
                self.assertEqual(last_row(*CHART, *full, call), [-2])
                self.assertEqual(last_row(*CHART, *full, START, call), [-3])

    def test_at_the_end_of_it_all_too(self):
        for call in TELLING + WRONG:
            with self.subTest(call=call):
                self.assertEqual(last_row(*CHART, START, send(4), call), [-3])

    def test_also_where_it_did_not_settle(self):
        for call in TELLING + WRONG:
            with self.subTest(call=call):
                self.assertEqual(rows(state(0, 0), way(1, 0, 1), START, call)[-2:], [[1], [-3]])

    def test_not_where_start_was_refused(self):
        self.assertEqual(rows(START, state(0, 0), state(1, 4), START, state(1, 0), begins(1, 3), way(1, 1, 3),
                              guard(0, 0, 0, 0), act(0, 1, 0, 0), on(1, 0, 1, 0, 0), START),
                         [[-1], [1], [2], [-1], [3], [0], [0], [0], [0], [0], [0]])

    def test_what_is_refused_changes_nothing(self):
        refused = TELLING + WRONG + (send(0), send(256), send(-1), is_in(-1), is_in(8), number(16), number(-1),
                                     take(0), take(65537))
        for events in ((), (1,), (1, 2), (1, 2, 3), (1, 4)):
            sends = tuple(send(event) for event in events)
            told = rows(*CHART, START, *sends, *LOOK)[-len(LOOK):]
            for call in refused:
                with self.subTest(events=events, call=call):
                    self.assertEqual(rows(*CHART, START, *sends, call, *LOOK)[-len(LOOK):], told)
                    self.assertEqual(rows(*CHART, START, call, *sends, *LOOK)[-len(LOOK):], told)

    def test_what_is_refused_ahead_of_start_changes_nothing(self):
        told = rows(*CHART, START, send(1), send(2), send(3), *LOOK)[-len(LOOK):]
        for call in WRONG + (send(1), send(0), is_in(1), number(0), take(1)):
            with self.subTest(call=call):
                calls = CHART + (call, START, send(1), send(2), send(3)) + LOOK
                self.assertEqual(rows(*calls)[-len(LOOK):], told)


class BeginInTheMidst(unittest.TestCase):
    def test_nothing_runs(self):
        self.assertEqual(rows(*CHART, START, BEGIN, send(1), is_in(0), number(0), take(1), START)[-6:],
                         [[0], [-4], [-4], [-4], [-4], [-1]])

    def test_a_new_chart(self):
        for events in ((), (1,), (2,), (4,)):
            sends = tuple(send(event) for event in events)
            calls = CHART + (START,) + sends + (BEGIN,)
            with self.subTest(events=events):
                again = CHART + (START, send(1), send(2), send(3)) + LOOK
                self.assertEqual(rows(*calls, *again)[len(calls):], rows(*again))

    def test_what_waits_is_forgotten(self):
        self.assertEqual(rows(*CHART, START, send(1), BEGIN, state(0, 0), START, take(ALL))[-1], [1, 1])

    def test_too_many_that_wait_are_forgotten(self):
        loop = (state(0, 0), way(1, 1, 1), act(0, 0, 1, 0), START)
        self.assertEqual(rows(*loop, *[send(1)] * 34, BEGIN, *loop, send(2))[-7:],
                         [[-2], [0], [1], [0], [0], [0], [0]])


class HandedIn(unittest.TestCase):
    LINE = flat((BEGIN,) + CHART + (START, send(1), send(2), START, send(3), take(3)) + LOOK + (BEGIN, START))

    def test_the_list_stands_as_it_was(self):
        calls = list(self.LINE)
        answers(calls)
        self.assertEqual(calls, self.LINE)

    def test_the_same_list_the_same_answer(self):
        first = answers(self.LINE)
        self.assertEqual(answers(self.LINE), first)
        answers(flat((BEGIN, state(0, 0), way(1, 0, 1), START)))
        self.assertEqual(answers(self.LINE), first)
        first.clear()
        self.assertNotEqual(answers(self.LINE), first)

    def test_whole_numbers_alone_are_told(self):
        told = answers(self.LINE)
        self.assertEqual({type(one) for one in told}, {int})


if __name__ == "__main__":
    unittest.main()
