"""Histories: what they remember and lead to."""

import unittest

from lines import START, act, begins, guard, last, numbers, on, send, state, step, trail, way

# 1 holds 2, which holds 3 and 4, and 5, which holds 6 and 7, and the histories 8 and 9; 10 is beside it, and begins.
# Events: 1 to the shallow one, 2 to the deep one, 3 out of 1, 4 from 3 to 4, 5 to 7, 6 from 7 to 6.
TREE = (
    state(0, 0), state(1, 0), state(2, 0), state(2, 0), state(1, 0), state(5, 0), state(5, 0),
    state(1, 3), state(1, 4), state(0, 0), begins(0, 10),
    way(10, 1, 8), way(10, 2, 9), way(1, 3, 10), way(3, 4, 4), way(2, 5, 7), way(7, 6, 6),
)
WAYS = 6


class Nothing(unittest.TestCase):
    """Where nothing is remembered."""

    def test_to_the_beginning_in_its_parent(self):
        for event in (1, 2):
            self.assertEqual(step(TREE, START, send(event)), [266, 1, 2, 3])

    def test_to_the_beginning_that_is_told(self):
        for event in (1, 2):
            self.assertEqual(step(TREE + (begins(1, 5), begins(5, 7)), START, send(event)), [266, 1, 5, 7])

    def test_to_the_target_of_its_way(self):
        chart = TREE + (way(8, 0, 5), way(9, 0, 4))
        self.assertEqual(step(chart, START, send(1)), [266, 1, 5, 6])
        self.assertEqual(step(chart, START, send(2)), [266, 1, 2, 4])

    def test_to_the_target_of_its_first_way(self):
        chart = TREE + (way(8, 9, 7), way(9, 319, 5), way(8, 0, 4), way(9, 0, 4))
        self.assertEqual(step(chart, START, send(1)), [266, 1, 5, 7])
        self.assertEqual(step(chart, START, send(2)), [266, 1, 5, 6])

    def test_a_target_deep_in_its_parent_also_of_a_shallow_one(self):
        self.assertEqual(step(TREE + (way(8, 0, 7),), START, send(1)), [266, 1, 5, 7])

    def test_whatever_its_way_asks_and_without_its_acts(self):
        chart = TREE + (way(8, 0, 7), guard(WAYS, 1, 0, 1), act(WAYS, 2, 0, 1), way(8, 0, 4))
        self.assertEqual(step(chart, START, send(1)), [266, 1, 5, 7])
        self.assertEqual(numbers(*chart, START, send(1)), [])

    def test_an_end_as_its_target(self):
        chart = (state(0, 0), state(0, 0), state(2, 0), state(2, 2), state(2, 3), way(1, 1, 5), way(5, 0, 4))
        self.assertEqual(step(chart, START, send(1)), [257, 2, 4])

    def test_in_one_that_is_side_by_side_with_all_its_parts(self):
        chart = (
            state(0, 0), state(0, 1), state(2, 0), state(3, 0), state(3, 0), state(2, 0), state(6, 0), state(6, 0),
            state(2, 3), state(2, 4), way(1, 1, 9), way(1, 2, 10),
        )
        for event in (1, 2):
            self.assertEqual(step(chart, START, send(event)), [257, 2, 3, 4, 6, 7])
            self.assertEqual(step(chart + (way(9, 0, 8), way(10, 0, 8)), START, send(event)), [257, 2, 3, 4, 6, 8])


class Remembered(unittest.TestCase):
    def test_a_shallow_one_the_parts(self):
        # To 7 within 5, out, and back to 5, where one comes to its beginning.
        self.assertEqual(step(TREE, START, send(1), send(5), send(3), send(1)), [266, 1, 5, 6])

    def test_a_deep_one_the_plain_states(self):
        self.assertEqual(step(TREE, START, send(1), send(5), send(3), send(2)), [266, 1, 5, 7])

    def test_where_one_was_last(self):
        there = (START, send(2), send(5), send(3), send(2), send(6), send(3))
        self.assertEqual(step(TREE, *there, send(2)), [266, 1, 5, 6])
        self.assertEqual(step(TREE, START, send(1), send(4), send(3), send(2)), [266, 1, 2, 4])
        self.assertEqual(step(TREE, START, send(1), send(4), send(3), send(1)), [266, 1, 2, 3])

    def test_ahead_of_its_way(self):
        chart = TREE + (way(8, 0, 4), way(9, 0, 4))
        self.assertEqual(step(chart, START, send(1)), [266, 1, 2, 4])
        self.assertEqual(step(chart, START, send(1), send(5), send(3), send(1)), [266, 1, 5, 6])
        self.assertEqual(step(chart, START, send(1), send(5), send(3), send(2)), [266, 1, 5, 7])

    def test_ahead_of_the_beginning(self):
        chart = TREE + (begins(1, 2), begins(5, 6))
        self.assertEqual(step(chart, START, send(1), send(5), send(3), send(2)), [266, 1, 5, 7])

    def test_more_than_once(self):
        back = (START, send(1), send(5), send(3), send(2), send(3), send(2), send(3))
        self.assertEqual(step(TREE, *back, send(2)), [266, 1, 5, 7])

    def test_only_as_its_parent_is_left(self):
        # Within 1, from 3 to 4 and 7: 1 is not left, so nothing is remembered as yet.
        chart = TREE + (way(7, 9, 9), way(7, 10, 8))
        self.assertEqual(step(chart, START, send(1), send(5), send(9)), [263, 261, 2, 3])
        self.assertEqual(step(chart, START, send(1), send(5), send(10)), [263, 261, 2, 3])

    def test_what_is_remembered_stands_as_one_moves_on_within_the_parent(self):
        # 7 is remembered; then one comes to 3 otherwise, and by the deep history from there.
        chart = TREE + (way(10, 7, 3), way(3, 9, 9), way(3, 10, 8))
        there = (START, send(1), send(5), send(3), send(7))
        self.assertEqual(step(chart, *there, send(9)), [259, 258, 5, 7])
        self.assertEqual(step(chart, *there, send(10)), [259, 258, 5, 6])

    def test_all_that_one_was_in_side_by_side(self):
        # 2 is side by side, with 3, which holds 4 and 5, and 6, which holds 7, which holds 8 and 9.
        chart = (
            state(0, 0), state(0, 1), state(2, 0), state(3, 0), state(3, 0), state(2, 0), state(6, 0), state(7, 0),
            state(7, 0), state(2, 3), state(2, 4), way(1, 1, 10), way(1, 2, 11), way(4, 3, 5), way(8, 4, 9),
            way(2, 5, 1),
        )
        moved = (START, send(1), send(3), send(4), send(5))
        self.assertEqual(step(chart, *moved, send(2)), [257, 2, 3, 5, 6, 7, 9])
        self.assertEqual(step(chart, *moved, send(1)), [257, 2, 3, 4, 6, 7, 8])
        self.assertEqual(step(chart, START, send(1), send(4), send(5), send(2)), [257, 2, 3, 4, 6, 7, 9])

    def test_a_deep_one_side_by_side_within_side_by_side(self):
        # 2 holds 3, side by side with 4 (5, 6) and 7, side by side with 8 (9, 10) and 11 (12, 13).
        chart = (
            state(0, 0), state(0, 0), state(2, 1), state(3, 0), state(4, 0), state(4, 0), state(3, 1), state(7, 0),
            state(8, 0), state(8, 0), state(7, 0), state(11, 0), state(11, 0), state(2, 4), way(1, 1, 14),
            way(5, 2, 6), way(12, 2, 13), way(9, 3, 10), way(2, 4, 1),
        )
        self.assertEqual(step(chart, START, send(1), send(2), send(4), send(1)),
                         [257, 2, 3, 4, 6, 7, 8, 9, 11, 13])
        self.assertEqual(step(chart, START, send(1), send(3), send(4), send(1)),
                         [257, 2, 3, 4, 5, 7, 8, 10, 11, 12])

    def test_an_end(self):
        chart = (state(0, 0), state(0, 0), state(2, 0), state(2, 2), state(2, 3), way(1, 1, 5), way(3, 2, 4),
                 way(2, 3, 1))
        self.assertEqual(step(chart, START, send(1), send(2), send(3), send(1)), [257, 2, 4])

    def test_each_history_of_a_state_and_of_the_states_in_it(self):
        # The history 4 of 2, and 5 of 3 within it; from 6 to 7.
        chart = (state(0, 0), state(0, 0), state(2, 0), state(2, 3), state(3, 3), state(3, 0), state(3, 0),
                 way(1, 1, 4), way(1, 2, 5), way(6, 3, 7), way(2, 4, 1))
        self.assertEqual(step(chart, START, send(1), send(3), send(4), send(1)), [257, 2, 3, 6])
        self.assertEqual(step(chart, START, send(1), send(3), send(4), send(2)), [257, 2, 3, 7])

    def test_ahead_of_the_acts_for_leaving_and_in_the_midst_of_settling(self):
        # 1 is left by settling, and come back to by it, too.
        chart = TREE + (way(10, 9, 9), on(10, 0, 0, 9, 0))
        self.assertEqual(step(chart, START, send(5), send(3)), [263, 261, 257, 10, 266, 1, 5, 7])


class LeftInThatVeryStep(unittest.TestCase):
    def test_from_the_parent_itself(self):
        chart = TREE + (way(1, 8, 8), way(1, 9, 9))
        self.assertEqual(step(chart, START, send(1), send(5), send(8)), [263, 261, 257, 1, 5, 6])
        self.assertEqual(step(chart, START, send(1), send(5), send(9)), [263, 261, 257, 1, 5, 7])

    def test_what_was_remembered_before_is_forgotten(self):
        chart = TREE + (way(1, 8, 8), way(1, 9, 9), way(10, 7, 4))
        there = (START, send(1), send(5), send(3), send(7))
        self.assertEqual(step(chart, *there, send(8)), [260, 258, 257, 1, 2, 3])
        self.assertEqual(step(chart, *there, send(9)), [260, 258, 257, 1, 2, 4])

    def test_its_way_has_no_say_then(self):
        chart = TREE + (way(8, 0, 7), way(9, 0, 7), way(1, 8, 8), way(1, 9, 9), way(10, 7, 4))
        self.assertEqual(step(chart, START, send(7), send(8)), [260, 258, 257, 1, 2, 3])
        self.assertEqual(step(chart, START, send(7), send(9)), [260, 258, 257, 1, 2, 4])

    def test_from_one_part_of_a_parent_that_is_side_by_side(self):
        # 1 is side by side, with 2 (3, 4) and 5 (6, 7): by its first way the history would lead to 7.
        chart = (
            state(0, 1), state(1, 0), state(2, 0), state(2, 0), state(1, 0), state(5, 0), state(5, 0), state(1, 4),
            way(8, 0, 7), way(3, 1, 4), way(4, 2, 8),
        )
        self.assertEqual(step(chart, START, send(1), send(2)), [262, 261, 260, 258, 257, 1, 2, 4, 5, 6])

    def test_what_is_stayed_in_is_settled_as_the_step_begins(self):
        # By its way the history in 2 leads to 3, so that 1 is stayed in, and 2 is left; then it remembers
        # 4, for which 3 would be near enough.
        chart = (state(0, 0), state(1, 1), state(2, 0), state(3, 0), state(3, 0), state(2, 4), way(6, 0, 3),
                 way(4, 1, 6))
        self.assertEqual(step(chart, START, send(1)), [260, 259, 258, 2, 3, 4])


class Stays(unittest.TestCase):
    def test_in_the_nearest_one_that_has_all_to_which_it_leads(self):
        # From 7, with 6 remembered, by the deep history: in 5.
        chart = TREE + (way(10, 7, 7), way(7, 9, 9), way(7, 10, 8))
        there = (START, send(7), send(6), send(3), send(7))
        self.assertEqual(step(chart, *there, send(9)), [263, 6])
        # By the shallow one, which remembers 5: in 1.
        self.assertEqual(step(chart, *there, send(10)), [263, 261, 5, 6])

    def test_nothing_beside_it_is_come_to(self):
        # 1 holds 2, side by side with 3 (4, 5) and 6 (7, 8); its history leads to 4 within 3.
        chart = (
            state(0, 0), state(1, 1), state(2, 0), state(3, 0), state(3, 0), state(2, 0), state(6, 0), state(6, 0),
            state(1, 3), way(9, 0, 4), way(4, 1, 5), way(7, 1, 8), way(5, 2, 9),
        )
        self.assertEqual(step(chart, START, send(1), send(2)), [261, 4])

    def test_a_history_of_another_part_is_stayed_around(self):
        # From 3 to the history in 5, within 1, which is side by side.
        chart = (
            state(0, 1), state(1, 0), state(2, 0), state(2, 0), state(1, 0), state(5, 0), state(5, 0), state(5, 3),
            way(3, 1, 4), way(6, 1, 7), way(4, 2, 8),
        )
        # 5 is left in that very step: 7 is remembered.
        self.assertEqual(step(chart, START, send(1), send(2)), [263, 261, 260, 258, 257, 1, 2, 3, 5, 7])


class Start(unittest.TestCase):
    def test_histories_are_not_come_to_by_themselves(self):
        chart = (state(0, 0), state(1, 3), state(1, 0), state(1, 0), way(2, 0, 4))
        self.assertEqual(last(*chart, START), 0)
        self.assertEqual(trail(*chart, START), [1, 3])


if __name__ == "__main__":
    unittest.main()
