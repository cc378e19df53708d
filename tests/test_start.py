"""Point 8: start."""

import unittest

from lines import (
    ALL, BEGIN, START, act, begins, guard, heads, inside, is_in, last, last_row, number, numbers, on, rows, send,
    state, take, trail, way,
)


class Start(unittest.TestCase):
    def test_one_state(self):
        self.assertEqual(last(state(0, 0), START), 0)
        self.assertEqual(trail(state(0, 0), START), [1])
        self.assertEqual(inside(state(0, 0), START), [1])

    def test_the_first_part_and_so_on(self):
        calls = (state(0, 0), state(0, 0), state(1, 0), state(1, 0), state(3, 0), START)
        self.assertEqual(trail(*calls), [1, 3, 5])
        self.assertEqual(inside(*calls), [1, 3, 5])

    def test_the_part_told(self):
        chart = (state(0, 0), state(0, 0), state(2, 0), state(2, 0), state(1, 0))
        self.assertEqual(trail(*chart, START), [1, 5])
        self.assertEqual(trail(*chart, begins(0, 2), START), [2, 3])
        self.assertEqual(trail(*chart, begins(0, 2), begins(2, 4), START), [2, 4])
        self.assertEqual(trail(*chart, begins(2, 4), START), [1, 5])

    def test_the_first_part_is_no_history(self):
        self.assertEqual(trail(state(0, 0), state(1, 3), state(1, 4), state(1, 0), state(1, 0), START), [1, 4])

    def test_all_parts_of_one_that_is_side_by_side(self):
        calls = (state(0, 1), state(1, 0), state(1, 0), state(1, 3), state(1, 0), START)
        self.assertEqual(trail(*calls), [1, 2, 3, 5])
        self.assertEqual(inside(*calls), [1, 2, 3, 5])

    def test_the_least_number_first_wherever_it_is(self):
        chart = (state(0, 1), state(1, 0), state(1, 0), state(3, 0), state(2, 0), state(1, 0), state(4, 0))
        self.assertEqual(trail(*chart, START), [1, 2, 3, 4, 5, 6, 7])

    def test_side_by_side_within_side_by_side(self):
        chart = (
            state(0, 1), state(1, 1), state(2, 0), state(3, 0), state(3, 0), state(2, 0), state(1, 0),
            state(7, 1), state(8, 0), state(8, 0), begins(3, 5),
        )
        self.assertEqual(trail(*chart, START), [1, 2, 3, 5, 6, 7, 8, 9, 10])

    def test_one_that_is_side_by_side_and_plain(self):
        self.assertEqual(trail(state(0, 1), START), [1])

    def test_63_within_one_another(self):
        self.assertEqual(trail(*[state(one, 0) for one in range(63)], START), list(range(1, 64)))

    def test_63_side_by_side(self):
        self.assertEqual(trail(state(0, 1), *[state(1, 0)] * 62, START), list(range(1, 64)))

    def test_numbers_are_0(self):
        calls = (state(0, 0), START) + tuple(number(which) for which in range(16))
        self.assertEqual(rows(*calls)[2:], [[0, 0]] * 16)

    def test_numbers_are_0_again_behind_begin(self):
        calls = (state(0, 0), on(1, 0, 1, 4, 9), START, number(4), BEGIN, state(0, 0), START, number(4))
        self.assertEqual(rows(*calls)[3::4], [[0, 9], [0, 0]])

    def test_the_acts_for_coming(self):
        chart = (state(0, 0), state(1, 0), on(2, 0, 2, 0, 3), on(1, 0, 1, 0, 4))
        self.assertEqual(numbers(*chart, START), [7])

    def test_it_settles_by_no_event(self):
        self.assertEqual(trail(state(0, 0), state(0, 0), way(1, 0, 2), START), [1, 257, 2])

    def test_it_settles_by_what_the_acts_for_coming_raise(self):
        chart = (state(0, 0), state(0, 0), way(1, 5, 2), on(1, 0, 0, 5, 0))
        self.assertEqual(trail(*chart, START), [1, 257, 2])

    def test_how_it_went(self):
        self.assertEqual(last(state(0, 0), way(1, 0, 1), START), 1)
        self.assertEqual(last(state(0, 0), way(1, 0, 1), guard(0, 1, 0, 1), START), 0)

    def test_coming_to_0_is_no_step(self):
        chart = (state(0, 0), way(1, 0, 1), act(0, 2, 0, 1))
        self.assertEqual(last(*chart, guard(0, 2, 0, 1000), START), 0)
        self.assertEqual(last(*chart, guard(0, 2, 0, 1001), START), 1)

    def test_it_runs_also_where_it_did_not_settle(self):
        self.assertEqual(last(state(0, 0), way(1, 0, 1), START, is_in(1)), 1)

    def test_an_end_at_once(self):
        chart = (state(0, 0), state(0, 2), begins(0, 2))
        self.assertEqual(last(*chart, START), 0)
        self.assertEqual(trail(*chart, START), [2])
        self.assertEqual(heads(*chart, START, send(1), is_in(2))[-2:], [-5, 1])

    def test_no_parts_of_0(self):
        self.assertEqual(heads(START), [-1])

    def test_no_parts_of_a_history_s_parent(self):
        for kind in (3, 4):
            with self.subTest(kind=kind):
                self.assertEqual(last(state(0, 0), state(1, kind), START), -1)
                self.assertEqual(last(state(0, 1), state(1, kind), START), -1)
                self.assertEqual(last(state(0, 0), state(0, 0), state(2, kind), START), -1)
                self.assertEqual(last(state(0, 0), state(1, 0), state(1, 3), state(2, kind), START), -1)
                self.assertEqual(last(state(0, 0), state(1, 3), state(1, 4), START), -1)

    def test_one_part_of_a_history_s_parent(self):
        for kind in (3, 4):
            for part in (0, 1, 2):
                with self.subTest(kind=kind, part=part):
                    self.assertEqual(last(state(0, 0), state(1, kind), state(1, part), START), 0)

    def test_refused_it_does_not_run(self):
        self.assertEqual(
            rows(START, is_in(0), state(0, 0), state(1, 3), START, send(1), number(0), take(1), state(1, 0), START,
                 is_in(3)),
            [[-1], [-4], [1], [2], [-1], [-4], [-4], [-4], [3], [0], [1]],
        )

    def test_refused_where_it_runs(self):
        chart = (state(0, 0), state(0, 0), way(1, 1, 2), on(2, 0, 1, 3, 8), START, send(1))
        self.assertEqual(rows(*chart, START)[-1], [-3])
        self.assertEqual(rows(*chart, START, START, take(ALL), is_in(1), is_in(2), number(3))[-5:],
                         [[-3], [3, 1, 257, 2], [0], [1], [0, 8]])

    def test_histories_remember_nothing(self):
        # 3 is left for 4, from which the history 2 leads to where one was.
        chart = (state(0, 0), state(1, 3), state(1, 0), state(1, 0), state(0, 0))
        ways = (way(3, 1, 4), way(4, 2, 5), way(5, 3, 2))
        run = (START, send(1), send(2), send(3))
        self.assertEqual(trail(*chart, *ways, *run), [1, 3, 259, 4, 260, 257, 5, 261, 1, 4])
        again = chart + ways + run + (BEGIN,) + chart + ways + (begins(0, 5), START, send(3))
        self.assertEqual(last_row(*again, take(ALL)), [4, 5, 261, 1, 3])


if __name__ == "__main__":
    unittest.main()
