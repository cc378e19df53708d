"""Point 9: send, with its refusals; and -4 of in, number and take."""

import unittest

from lines import (
    ALL, BEGIN, GREATEST, LEAST, START, act, guard, heads, inside, is_in, last, number, numbers, on, rows,
    send, state, step, take, trail, way,
)

WRONG_EVENTS = (0, -1, 256, 257, 319, LEAST, GREATEST)

# 1 goes on from itself to itself by the event 1: 2 numbers a step. The event 2 leads to the end of it all.
LOOP = (state(0, 0), way(1, 1, 1), act(0, 0, 1, 0), state(0, 2), way(1, 2, 2))
# What a send of 1 brings, its own step and 1000 more.
A_SEND = 2 * 1001


class Send(unittest.TestCase):
    def test_a_step(self):
        chart = (state(0, 0), state(0, 0), way(1, 7, 2))
        self.assertEqual(last(*chart, START, send(7)), 0)
        self.assertEqual(step(chart, START, send(7)), [257, 2])

    def test_the_first_and_the_last_event(self):
        for event in (1, 255):
            with self.subTest(event=event):
                chart = (state(0, 0), state(0, 0), way(1, event, 2))
                self.assertEqual(step(chart, START, send(event)), [257, 2])
                self.assertEqual(step(chart, START, send(256 - event)), [])

    def test_an_event_at_which_no_way_is_taken(self):
        chart = (state(0, 0), state(0, 0), way(1, 1, 2))
        self.assertEqual(last(*chart, START, send(2)), 0)
        self.assertEqual(step(chart, START, send(2)), [])
        self.assertEqual(inside(*chart, START, send(2)), [1])

    def test_the_same_event_goes_on_step_by_step(self):
        chart = (state(0, 0), state(0, 0), state(0, 0), way(1, 1, 2), way(2, 1, 3))
        self.assertEqual(trail(*chart, START, send(1)), [1, 257, 2])
        self.assertEqual(trail(*chart, START, send(1), send(1), send(1)), [1, 257, 2, 258, 3])

    def test_it_settles(self):
        chart = (state(0, 0), state(0, 0), state(0, 0), state(0, 0), way(1, 1, 2), way(2, 0, 3), way(3, 9, 4),
                 act(0, 0, 9, 0))
        self.assertEqual(step(chart, START, send(1)), [257, 2, 258, 3, 259, 4])

    def test_it_settles_also_where_no_way_is_taken(self):
        # Start breaks off behind 1000 steps, and a send of what nothing hears goes on from there.
        chart = (state(0, 0), way(1, 0, 1), act(0, 2, 0, 1), guard(0, 2, 0, 1500))
        self.assertEqual(heads(*chart, START, send(9))[-2:], [1, 0])
        self.assertEqual(numbers(*chart, START), [1000])
        self.assertEqual(numbers(*chart, START, send(9)), [1500])

    def test_the_step_is_ahead_of_settling(self):
        # 1 would lead on to 3 by no event; it is left for 2 ahead of that.
        chart = (state(0, 0), state(0, 0), state(0, 0), way(1, 0, 3), guard(0, 1, 0, 1), way(1, 1, 2),
                 act(1, 1, 0, 1))
        self.assertEqual(step(chart, START, send(1)), [257, 2])

    def test_how_it_went(self):
        self.assertEqual(heads(*LOOP, START, send(3), send(1), send(1), send(2))[-5:], [0, 0, 1, 1, 0])


class NothingRuns(unittest.TestCase):
    def test_as_long_as_it_is_not_started(self):
        calls = (send(1), is_in(0), number(0), take(1))
        self.assertEqual(rows(*calls), [[-4]] * 4)
        self.assertEqual(rows(state(0, 0), *calls)[1:], [[-4]] * 4)

    def test_behind_begin(self):
        calls = (send(1), is_in(1), number(0), take(1))
        self.assertEqual(rows(state(0, 0), START, *calls, BEGIN, *calls)[-4:], [[-4]] * 4)
        self.assertEqual(rows(state(0, 0), START, *calls)[-4:], [[0], [1], [0, 0], [1, 1]])

    def test_behind_a_start_that_is_refused(self):
        self.assertEqual(rows(START, send(1), is_in(0), number(0), take(1)), [[-1]] + [[-4]] * 4)

    def test_ahead_of_what_else_would_be_wrong(self):
        for wrong in WRONG_EVENTS:
            with self.subTest(wrong=wrong):
                self.assertEqual(rows(state(0, 0), send(wrong)), [[1], [-4]])
        for wrong in (-1, 2, 16, 64, LEAST, GREATEST):
            with self.subTest(wrong=wrong):
                self.assertEqual(rows(state(0, 0), is_in(wrong)), [[1], [-4]])
        for wrong in (-1, 16, LEAST, GREATEST):
            with self.subTest(wrong=wrong):
                self.assertEqual(rows(state(0, 0), number(wrong)), [[1], [-4]])
        for wrong in (-1, 0, 65537, LEAST, GREATEST):
            with self.subTest(wrong=wrong):
                self.assertEqual(rows(state(0, 0), take(wrong)), [[1], [-4]])


class Refused(unittest.TestCase):
    def test_events_that_there_are_not(self):
        for event in WRONG_EVENTS:
            with self.subTest(event=event):
                self.assertEqual(rows(*LOOP, START, send(event))[-1], [-1])

    def test_done_and_no_event_are_not_sent(self):
        chart = (state(0, 0), state(1, 0), state(1, 0), way(2, 257, 3), way(2, 256, 3))
        for event in (0, 256, 257):
            with self.subTest(event=event):
                self.assertEqual(rows(*chart, START, send(event), take(ALL))[-2:], [[-1], [2, 1, 2]])

    def test_the_end_of_it_all(self):
        self.assertEqual(heads(*LOOP, START, send(2), send(1), send(2), send(3))[-4:], [0, -5, -5, -5])

    def test_the_end_of_it_all_by_settling(self):
        chart = (state(0, 0), state(0, 2), way(1, 0, 2))
        self.assertEqual(heads(*chart, START, send(1))[-2:], [0, -5])

    def test_at_the_end_of_it_all_it_still_runs(self):
        self.assertEqual(
            rows(*LOOP, START, send(2), START, state(0, 0), is_in(1), is_in(2), number(0), take(ALL))[-6:],
            [[-3], [-3], [0], [1], [0, 0], [3, 1, 257, 2]],
        )

    def test_events_that_there_are_not_at_the_end_of_it_all(self):
        for event in WRONG_EVENTS:
            with self.subTest(event=event):
                self.assertEqual(heads(*LOOP, START, send(2), send(event))[-2:], [0, -1])

    def test_65536_wait_and_one_more(self):
        # Start brings 1 number, 33 sends bring more than 65536: so many are taken that so many wait.
        calls = LOOP + (START,) + (send(1),) * 33
        waiting = 1 + 33 * A_SEND
        self.assertEqual(heads(*calls, send(1))[-2:], [1, -2])
        self.assertEqual(heads(*calls, take(waiting - 65536), send(3))[-1], 0)
        self.assertEqual(heads(*calls, take(waiting - 65537), send(3))[-1], -2)
        self.assertEqual(heads(*calls, take(waiting - 65537), send(3), take(1), send(3))[-3:], [-2, 1, 0])

    def test_where_65536_wait_a_send_still_brings_all_it_does(self):
        calls = LOOP + (START,) + (send(1),) * 33
        waiting = 1 + 33 * A_SEND
        told = rows(*calls, take(waiting - 65536), send(1), take(ALL), take(ALL))
        self.assertEqual([row[0] for row in told[-4:]], [waiting - 65536, 1, 65536, A_SEND])

    def test_events_that_there_are_not_where_too_many_wait(self):
        calls = LOOP + (START,) + (send(1),) * 33
        for event in WRONG_EVENTS:
            with self.subTest(event=event):
                self.assertEqual(heads(*calls, send(event), send(1))[-2:], [-1, -2])

    def test_the_end_of_it_all_where_too_many_wait(self):
        # 50 states within one another, left and come to 900 times; then one comes to the end, 51.
        chart = tuple(state(one, 0) for one in range(50)) + (
            state(0, 2), way(1, 1, 1), act(0, 2, 0, 1), act(0, 0, 1, 0), way(1, 0, 51), guard(1, 3, 0, 900),
        )
        told = rows(*chart, START, send(1), send(1), send(0), take(ALL), send(1))
        self.assertEqual([row[0] for row in told[-6:]], [0, 0, -5, -1, 65536, -5])

    def test_a_refused_send_changes_nothing(self):
        chart = (state(0, 0), state(0, 0), state(0, 2), way(1, 1, 2), way(2, 1, 3), on(2, 0, 2, 0, 1))
        look = (is_in(1), is_in(2), is_in(3), number(0), take(ALL))
        self.assertEqual(rows(*chart, START, send(0), send(256), *look)[-5:], [[1], [0], [0], [0, 0], [1, 1]])
        self.assertEqual(rows(*chart, START, send(1), send(1), send(1), *look)[-5:],
                         [[0], [0], [1], [0, 1], [5, 1, 257, 2, 258, 3]])

    def test_a_send_refused_as_too_many_wait_changes_nothing(self):
        calls = LOOP + (way(1, 5, -1), act(2, 2, 0, 1), START) + (send(1),) * 33
        told = rows(*calls, send(5), send(2), number(0), is_in(1), take(ALL), take(ALL), take(ALL))
        self.assertEqual([row[:2] for row in told[-7:-3]], [[-2], [-2], [0, 0], [1]])
        self.assertEqual([row[0] for row in told[-3:]], [65536, 1 + 33 * A_SEND - 65536, 0])


if __name__ == "__main__":
    unittest.main()
