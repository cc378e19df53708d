"""Points 10, 11 and 12: in, number and take."""

import unittest

from lines import (
    ALL, GREATEST, LEAST, START, act, begins, heads, is_in, last_row, number, on, rows, send, state, take, way,
)

# 1 holds 2 and the histories 3 and 4; 5 is side by side, with 6, and 7 that holds the end 8.
TREE = (
    state(0, 0), state(1, 0), state(1, 3), state(1, 4), state(0, 1), state(5, 0), state(5, 0), state(7, 2),
    way(1, 1, 5),
)


class In(unittest.TestCase):
    def test_what_one_is_in(self):
        asked = [is_in(one) for one in range(9)]
        self.assertEqual(heads(*TREE, START, *asked)[-9:], [0, 1, 1, 0, 0, 0, 0, 0, 0])
        self.assertEqual(heads(*TREE, START, send(1), *asked)[-9:], [0, 0, 0, 0, 0, 1, 1, 1, 1])

    def test_0_of_0(self):
        self.assertEqual(last_row(*TREE, START, is_in(0)), [0])

    def test_0_of_histories_that_one_came_by(self):
        chart = TREE + (way(5, 2, 3), way(5, 3, 4))
        for event in (2, 3):
            told = heads(*chart, START, send(1), send(event), is_in(2), is_in(3), is_in(4))
            self.assertEqual(told[-3:], [1, 0, 0])

    def test_states_that_there_are_not(self):
        for number in (-1, 9, 64, 256, LEAST, GREATEST):
            with self.subTest(number=number):
                self.assertEqual(last_row(*TREE, START, is_in(number)), [-1])

    def test_the_last_of_64(self):
        chart = tuple(state(0, 0) for one in range(63)) + (begins(0, 63), START)
        self.assertEqual(heads(*chart, is_in(62), is_in(63), is_in(64))[-3:], [0, 1, -1])

    def test_asking_changes_nothing(self):
        self.assertEqual(heads(*TREE, START, is_in(1), is_in(1), is_in(9), is_in(1))[-4:], [1, 1, -1, 1])


class Number(unittest.TestCase):
    def test_each_has_its_own(self):
        told = [on(1, 0, 1, which, 100 + which) for which in range(16)]
        asked = [number(which) for which in range(16)]
        self.assertEqual(rows(state(0, 0), *told, START, *asked)[-16:], [[0, 100 + which] for which in range(16)])

    def test_numbers_that_there_are_not(self):
        for which in (-1, 16, 255, LEAST, GREATEST):
            with self.subTest(which=which):
                self.assertEqual(last_row(state(0, 0), START, number(which)), [-1])

    def test_the_least_and_the_greatest(self):
        for much in (LEAST, -1, 1, GREATEST):
            with self.subTest(much=much):
                self.assertEqual(last_row(state(0, 0), on(1, 0, 1, 0, much), START, number(0)), [0, much])
                self.assertEqual(last_row(state(0, 0), on(1, 0, 2, 15, much), START, number(15)), [0, much])

    def test_over_and_under(self):
        for acts, told in (
            (((1, GREATEST), (2, 1)), LEAST),
            (((1, LEAST), (2, -1)), GREATEST),
            (((1, GREATEST), (2, GREATEST)), -2),
            (((1, LEAST), (2, LEAST)), 0),
            (((1, GREATEST), (2, 2)), LEAST + 1),
            (((1, LEAST), (2, GREATEST)), -1),
            (((2, GREATEST), (2, 1), (2, -1)), GREATEST),
            (((1, 5), (2, LEAST)), LEAST + 5),
            (((1, -5), (2, LEAST)), GREATEST - 4),
        ):
            with self.subTest(acts=acts):
                coming = [on(1, 0, kind, 3, much) for kind, much in acts]
                self.assertEqual(last_row(state(0, 0), *coming, START, number(3)), [0, told])
                chart = [state(0, 0), way(1, 1, -1)] + [act(0, kind, 3, much) for kind, much in acts]
                self.assertEqual(last_row(*chart, START, send(1), number(3)), [0, told])

    def test_a_number_that_is_set_is_not_added_to(self):
        self.assertEqual(last_row(state(0, 0), on(1, 0, 2, 0, 7), on(1, 0, 1, 0, 5), START, number(0)), [0, 5])

    def test_a_raised_event_changes_no_number(self):
        self.assertEqual(last_row(state(0, 0), on(1, 0, 0, 3, 9), START, number(3)), [0, 0])


class Take(unittest.TestCase):
    def test_come_to_and_left_in_order(self):
        self.assertEqual(last_row(*TREE, START, send(1), take(ALL)), [8, 1, 2, 258, 257, 5, 6, 7, 8])

    def test_most_at_most(self):
        told = rows(*TREE, START, take(1), send(1), take(2), take(1), take(3), take(3), take(1))
        self.assertEqual(told[-7:],
                         [[1, 1], [0], [2, 2, 258], [1, 257], [3, 5, 6, 7], [1, 8], [0]])

    def test_what_is_taken_is_not_told_again(self):
        self.assertEqual(rows(*TREE, START, take(ALL), take(ALL), send(1), take(1), take(ALL))[-5:],
                         [[2, 1, 2], [0], [0], [1, 258], [5, 257, 5, 6, 7, 8]])

    def test_most_that_is_outside_1_to_65536(self):
        for most in (0, -1, 65537, LEAST, GREATEST):
            with self.subTest(most=most):
                self.assertEqual(rows(*TREE, START, take(most), take(1), take(65536))[-3:], [[0], [1, 1], [1, 2]])

    def test_65536_at_once_where_more_wait(self):
        # Start brings 1 number, each send 2002: its own step and 1000 more.
        chart = (state(0, 0), way(1, 1, 1), act(0, 0, 1, 0), START) + (send(1),) * 33
        told = rows(*chart, take(65536), take(65536), take(65536))[-3:]
        rest = 1 + 33 * 2002 - 65536
        self.assertEqual(told, [[65536, 1] + [257, 1] * 32767 + [257], [rest, 1] + [257, 1] * ((rest - 1) // 2), [0]])

    def test_of_0_nothing(self):
        chart = (state(0, 0), state(0, 0), way(1, 1, 2), START, send(1), take(ALL))
        self.assertEqual(last_row(*chart), [3, 1, 257, 2])

    def test_of_histories_nothing(self):
        chart = TREE + (way(5, 2, 4), START, send(1), take(ALL), send(2))
        self.assertEqual(last_row(*chart, take(ALL)), [6, 264, 263, 262, 261, 1, 2])

    def test_the_last_state(self):
        chart = tuple(state(0, 0) for one in range(63)) + (begins(0, 63), way(63, 1, 63), START, send(1))
        self.assertEqual(last_row(*chart, take(ALL)), [3, 63, 319, 63])

    def test_steps_of_settling_one_behind_another(self):
        chart = (state(0, 0), state(0, 0), state(0, 0), way(1, 0, 2), way(2, 0, 3))
        self.assertEqual(last_row(*chart, START, take(ALL)), [5, 1, 257, 2, 258, 3])


if __name__ == "__main__":
    unittest.main()
