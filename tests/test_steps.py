"""A step: which ways are taken and agree, what they stay in and leave, and what is come to, in which order."""

import unittest

from lines import GREATEST, LEAST, START, act, begins, guard, inside, numbers, on, send, state, step, trail, way

# 1 holds 2, which holds 3 and 4, and 5, which holds 6; 7 is beside 1.
NEST = (state(0, 0), state(1, 0), state(2, 0), state(2, 0), state(1, 0), state(5, 0), state(0, 0))
# 1 is side by side, with 2, which holds 3 and 4, and 5, which holds 6 and 7; 8 is beside 1.
PAIR = (state(0, 1), state(1, 0), state(2, 0), state(2, 0), state(1, 0), state(5, 0), state(5, 0), state(0, 0))
PAIR_LEFT = [262, 261, 259, 258, 257]


class Taken(unittest.TestCase):
    def test_of_a_plain_state(self):
        self.assertEqual(step(NEST + (way(3, 1, 4),), START, send(1)), [259, 4])

    def test_of_its_parent(self):
        self.assertEqual(step(NEST + (way(2, 1, 5),), START, send(1)), [259, 258, 5, 6])

    def test_of_its_parent_s_parent(self):
        self.assertEqual(step(NEST + (way(1, 1, 7),), START, send(1)), [259, 258, 257, 7])

    def test_of_none_that_one_is_not_in(self):
        chart = NEST + (way(4, 1, 7), way(5, 1, 7), way(6, 1, 7), way(7, 1, 1))
        self.assertEqual(step(chart, START, send(1)), [])

    def test_the_inner_one_ahead_of_the_outer_one_told_first(self):
        chart = NEST + (way(1, 1, 7), way(2, 1, 5), way(3, 1, 4))
        self.assertEqual(step(chart, START, send(1)), [259, 4])
        self.assertEqual(step(chart, START, send(1), send(1)), [260, 258, 5, 6])
        self.assertEqual(step(chart, START, send(1), send(1), send(1)), [262, 261, 257, 7])

    def test_the_one_told_first_of_one_state(self):
        self.assertEqual(step(NEST + (way(3, 1, 7), way(3, 1, 4)), START, send(1)), [259, 258, 257, 7])
        self.assertEqual(step(NEST + (way(3, 1, 4), way(3, 1, 7)), START, send(1)), [259, 4])

    def test_of_that_event_alone(self):
        chart = NEST + (way(3, 2, 7), way(3, 1, 4), way(3, 258, 7), way(1, 2, 7))
        self.assertEqual(step(chart, START, send(1)), [259, 4])

    def test_the_next_one_where_what_is_asked_is_not_so(self):
        chart = NEST + (way(3, 1, 7), guard(0, 1, 0, 1), way(3, 1, 4))
        self.assertEqual(step(chart, START, send(1)), [259, 4])

    def test_the_parent_s_where_what_is_asked_is_not_so(self):
        chart = NEST + (way(3, 1, 4), guard(0, 1, 0, 1), way(2, 1, 5), guard(1, 1, 0, 1), way(1, 1, 7))
        self.assertEqual(step(chart, START, send(1)), [259, 258, 257, 7])

    def test_none_where_nothing_that_is_asked_is_so(self):
        chart = NEST + (way(3, 1, 4), guard(0, 1, 0, 1), way(1, 1, 7), guard(1, 1, 0, 1))
        self.assertEqual(step(chart, START, send(1)), [])

    def test_each_way_once(self):
        chart = PAIR + (way(1, 1, -1), act(0, 2, 0, 1))
        self.assertEqual(numbers(*chart, START, send(1)), [1])

    def test_for_each_plain_state(self):
        chart = PAIR + (way(3, 1, -1), act(0, 2, 0, 1), way(6, 1, -1), act(1, 2, 1, 1))
        self.assertEqual(numbers(*chart, START, send(1)), [1, 1])

    def test_the_outer_one_for_a_plain_state_that_has_none(self):
        # 3 takes its own way, 6 that of 1; both have no target, so that they agree.
        chart = PAIR + (way(3, 1, -1), act(0, 2, 0, 1), way(1, 1, -1), act(1, 2, 1, 1))
        self.assertEqual(numbers(*chart, START, send(1)), [1, 1])

    def test_a_plain_one_that_is_side_by_side_or_an_end(self):
        self.assertEqual(step((state(0, 1), state(0, 0), way(1, 1, 2)), START, send(1)), [257, 2])
        chart = (state(0, 0), state(1, 2), state(0, 0), way(1, 1, 3))
        self.assertEqual(step(chart, START, send(1)), [258, 257, 3])

    def test_a_history_s_own_way_is_never_taken(self):
        chart = (state(0, 0), state(1, 0), state(1, 0), state(1, 3), way(4, 1, 3), way(4, 0, 3))
        self.assertEqual(step(chart, START, send(1)), [])


class Asked(unittest.TestCase):
    def moves(self, ask, much, number):
        chart = (state(0, 0), state(0, 0), way(1, 1, 2), guard(0, ask, 3, much), on(1, 0, 1, 3, number))
        return step(chart, START, send(1)) == [257, 2]

    def test_nothing(self):
        for number in (LEAST, -1, 0, 1, GREATEST):
            self.assertTrue(self.moves(0, 5, number))

    def test_that_it_is_so_much(self):
        for much in (LEAST, -1, 0, 5, GREATEST):
            for number in (LEAST, -1, 0, 5, GREATEST):
                self.assertEqual(self.moves(1, much, number), number == much)

    def test_that_it_is_less(self):
        for much, number, told in (
            (5, 4, True), (5, 5, False), (5, 6, False), (LEAST, LEAST, False), (GREATEST, LEAST, True),
            (-4, -5, True), (-5, -5, False), (0, -1, True),
        ):
            self.assertEqual(self.moves(2, much, number), told)

    def test_that_it_is_not_less(self):
        for much, number, told in (
            (5, 4, False), (5, 5, True), (5, 6, True), (LEAST, LEAST, True), (GREATEST, LEAST, False),
            (-4, -5, False), (-5, -5, True), (0, -1, False),
        ):
            self.assertEqual(self.moves(3, much, number), told)

    def test_of_the_number_that_is_told(self):
        for which in (0, 15):
            chart = (state(0, 0), state(0, 0), way(1, 1, 2), guard(0, 1, which, 7))
            self.assertEqual(step(chart + (on(1, 0, 1, which, 7),), START, send(1)), [257, 2])
            self.assertEqual(step(chart + (on(1, 0, 1, 15 - which, 7),), START, send(1)), [])

    def test_what_was_told_last(self):
        chart = (state(0, 0), state(0, 0), way(1, 1, 2), guard(0, 1, 0, 7), guard(0, 0, 0, 7))
        self.assertEqual(step(chart, START, send(1)), [257, 2])

    def test_all_ways_ask_ahead_of_the_step(self):
        # The way of 3 changes what that of 6 asks for, but both are taken by then.
        chart = PAIR + (way(3, 1, -1), act(0, 1, 0, 1), way(6, 1, 7), guard(1, 1, 0, 0))
        self.assertEqual(step(chart, START, send(1)), [262, 7])


class Agree(unittest.TestCase):
    def test_two_that_agree(self):
        self.assertEqual(step(PAIR + (way(3, 1, 4), way(6, 1, 7)), START, send(1)), [262, 259, 4, 7])
        self.assertEqual(step(PAIR + (way(6, 1, 7), way(3, 1, 4)), START, send(1)), [262, 259, 4, 7])

    def test_two_that_do_not_the_first_one_stays(self):
        self.assertEqual(step(PAIR + (way(3, 1, 8), way(6, 1, 7)), START, send(1)), PAIR_LEFT + [8])
        self.assertEqual(step(PAIR + (way(6, 1, 7), way(3, 1, 8)), START, send(1)), PAIR_LEFT + [8])
        self.assertEqual(step(PAIR + (way(3, 1, 4), way(6, 1, 8)), START, send(1)), [259, 4])

    def test_the_first_is_told_by_the_plain_state_not_by_the_way(self):
        chart = PAIR + (way(6, 1, 8), way(3, 1, 4))
        self.assertEqual(step(chart, START, send(1)), [259, 4])

    def test_what_is_left_aside_does_nothing(self):
        chart = PAIR + (way(3, 1, 4), way(6, 1, 8), act(1, 2, 0, 1), act(1, 0, 9, 0), way(1, 9, 8))
        self.assertEqual(numbers(*chart, START, send(1)), [])
        self.assertEqual(step(chart, START, send(1)), [259, 4])

    def test_the_inner_one_first(self):
        # 3 takes its own way; 6 takes that of 1, around 3.
        for ways in ((way(3, 1, 4), way(1, 1, 8)), (way(1, 1, 8), way(3, 1, 4))):
            self.assertEqual(step(PAIR + ways, START, send(1)), [259, 4])

    def test_the_inner_one_last(self):
        # 3 takes the way of 1; 6 its own, and its source is within 1.
        for ways in ((way(6, 1, 7), way(1, 1, 8)), (way(1, 1, 8), way(6, 1, 7))):
            self.assertEqual(step(PAIR + ways, START, send(1)), [262, 7])

    def test_the_inner_one_last_though_it_leaves_as_much(self):
        self.assertEqual(step(PAIR + (way(1, 1, 1), way(6, 1, 8)), START, send(1)), PAIR_LEFT + [8])

    def test_within_the_sources_of_all_of_them(self):
        # 1 is side by side, with 2, which holds 3, which is side by side with 4 and 8, and 5, which holds 6 and 7.
        chart = (
            state(0, 1), state(1, 0), state(2, 1), state(3, 0), state(1, 0), state(5, 0), state(5, 0), state(3, 0),
            state(0, 0), way(3, 1, 3), way(8, 1, 9),
        )
        # 8 is within 3, whose way 4 takes: that one is left aside.
        self.assertEqual(step(chart, START, send(1)), [264, 262, 261, 260, 259, 258, 257, 9])
        # But it's not within 6.
        chart += (way(6, 1, 7),)
        self.assertEqual(step(chart, START, send(1)), [264, 262, 260, 259, 3, 4, 7, 8])

    def test_an_outer_one_last_behind_two_inner_ones(self):
        # 1 is side by side, with 2, side by side with 3 and 4, which holds 5 and 6; and 7, 8.
        chart = (
            state(0, 1), state(1, 1), state(2, 0), state(2, 0), state(4, 0), state(4, 0), state(1, 0), state(0, 0),
            way(2, 1, 8), way(5, 1, 6), way(1, 1, 8),
        )
        # 3 takes the way of 2, 5 its own, 7 that of 1, which is left aside as 5 is in the midst of it.
        self.assertEqual(step(chart, START, send(1)), [261, 6])

    def test_what_was_left_aside_leaves_nothing_aside(self):
        # 1 is side by side, with 2, side by side with 3 and 4, which holds 5 and 6; and 7, which holds 8 and 9.
        chart = (
            state(0, 1), state(1, 1), state(2, 0), state(2, 0), state(4, 0), state(4, 0), state(1, 0), state(7, 0),
            state(7, 0), state(0, 0), way(2, 1, 10), way(5, 1, 6), way(8, 1, 9),
        )
        self.assertEqual(step(chart, START, send(1)), [264, 261, 6, 9])

    def test_one_without_a_target_agrees_with_all(self):
        chart = PAIR + (way(3, 1, 8), way(6, 1, -1), act(1, 2, 0, 1))
        self.assertEqual(step(chart, START, send(1)), PAIR_LEFT + [8])
        self.assertEqual(numbers(*chart, START, send(1)), [1])
        chart = PAIR + (way(3, 1, -1), act(0, 2, 0, 1), way(6, 1, 8))
        self.assertEqual(step(chart, START, send(1)), PAIR_LEFT + [8])
        self.assertEqual(numbers(*chart, START, send(1)), [1])


class Stays(unittest.TestCase):
    def test_in_the_parent_for_a_target_beside_the_source(self):
        self.assertEqual(step(NEST + (way(3, 1, 4),), START, send(1)), [259, 4])

    def test_in_the_parent_for_the_source_itself(self):
        self.assertEqual(step(NEST + (way(3, 1, 3),), START, send(1)), [259, 3])
        self.assertEqual(step(NEST + (way(2, 1, 2),), START, send(1)), [259, 258, 2, 3])

    def test_the_source_is_left_for_a_target_within_it(self):
        self.assertEqual(step(NEST + (way(2, 1, 4),), START, send(1)), [259, 258, 2, 4])
        self.assertEqual(step(NEST + (way(1, 1, 6),), START, send(1)), [259, 258, 257, 1, 5, 6])

    def test_the_target_is_left_that_is_around_the_source(self):
        self.assertEqual(step(NEST + (way(3, 1, 2),), START, send(1)), [259, 258, 2, 3])
        self.assertEqual(step(NEST + (way(3, 1, 1),), START, send(1)), [259, 258, 257, 1, 2, 3])

    def test_in_the_nearest_one_that_has_both(self):
        self.assertEqual(step(NEST + (way(3, 1, 6),), START, send(1)), [259, 258, 5, 6])
        self.assertEqual(step(NEST + (way(3, 1, 7),), START, send(1)), [259, 258, 257, 7])

    def test_not_in_one_that_is_side_by_side(self):
        self.assertEqual(step(PAIR + (way(3, 1, 7),), START, send(1)), PAIR_LEFT + [1, 2, 3, 5, 7])
        self.assertEqual(step(PAIR + (way(2, 1, 4),), START, send(1)), PAIR_LEFT + [1, 2, 4, 5, 6])

    def test_without_a_target_nothing_is_left_or_come_to(self):
        chart = NEST + (way(3, 1, -1), act(0, 1, 0, 4), on(3, 0, 2, 1, 1), on(3, 1, 2, 2, 1))
        self.assertEqual(step(chart, START, send(1)), [])
        self.assertEqual(numbers(*chart, START, send(1)), [4, 1])


class Coming(unittest.TestCase):
    def test_with_the_states_around_it(self):
        self.assertEqual(step(NEST + (begins(0, 7), way(7, 1, 6)), START, send(1)), [263, 1, 5, 6])

    def test_with_the_beginnings_in_it(self):
        self.assertEqual(step(NEST + (begins(0, 7), way(7, 1, 1)), START, send(1)), [263, 1, 2, 3])
        self.assertEqual(step(NEST + (begins(0, 7), begins(1, 5), way(7, 1, 1)), START, send(1)), [263, 1, 5, 6])

    def test_not_with_the_beginning_where_one_comes_to_something_else_in_it(self):
        self.assertEqual(step(NEST + (begins(0, 7), way(7, 1, 4)), START, send(1)), [263, 1, 2, 4])
        self.assertEqual(step(NEST + (begins(0, 7), way(7, 1, 5)), START, send(1)), [263, 1, 5, 6])

    def test_with_all_parts_side_by_side(self):
        self.assertEqual(step(PAIR + (begins(0, 8), way(8, 1, 1)), START, send(1)), [264, 1, 2, 3, 5, 6])

    def test_with_the_other_parts_side_by_side(self):
        self.assertEqual(step(PAIR + (begins(0, 8), way(8, 1, 4)), START, send(1)), [264, 1, 2, 4, 5, 6])
        self.assertEqual(step(PAIR + (begins(0, 8), way(8, 1, 7)), START, send(1)), [264, 1, 2, 3, 5, 7])
        self.assertEqual(step(PAIR + (begins(0, 8), way(8, 1, 5)), START, send(1)), [264, 1, 2, 3, 5, 6])

    def test_side_by_side_within_side_by_side(self):
        # 1 is side by side, with 2, side by side with 3, which holds 4 and 5, and 6; and 7, which holds 8 and 9.
        chart = (
            state(0, 1), state(1, 1), state(2, 0), state(3, 0), state(3, 0), state(2, 0), state(1, 0), state(7, 0),
            state(7, 0), state(0, 0), begins(0, 10), way(10, 1, 5), way(10, 2, 9), way(10, 3, 6), way(4, 4, 5),
            way(5, 5, 9), way(8, 4, 9),
        )
        self.assertEqual(step(chart, START, send(1)), [266, 1, 2, 3, 5, 6, 7, 8])
        self.assertEqual(step(chart, START, send(2)), [266, 1, 2, 3, 4, 6, 7, 9])
        self.assertEqual(step(chart, START, send(3)), [266, 1, 2, 3, 4, 6, 7, 8])
        self.assertEqual(step(chart, START, send(3), send(4)), [264, 260, 5, 9])
        self.assertEqual(step(chart, START, send(1), send(5)),
                         [264, 263, 262, 261, 259, 258, 257, 1, 2, 3, 4, 6, 7, 9])

    def test_what_one_is_in_behind_it(self):
        self.assertEqual(inside(*PAIR, way(3, 1, 4), START, send(1)), [1, 2, 4, 5, 6])
        self.assertEqual(inside(*PAIR, way(3, 1, 8), START, send(1)), [8])
        self.assertEqual(inside(*NEST, way(3, 1, 6), START, send(1)), [1, 5, 6])


class Order(unittest.TestCase):
    """1 is side by side, with 2, which holds 3 and 4; 5 holds 6, which holds 7 to 11, and tells what was raised."""

    CHART = (
        state(0, 1), state(1, 0), state(2, 0), state(2, 0), state(1, 0), state(5, 0), state(6, 0), state(6, 0),
        state(6, 0), state(6, 0), state(6, 0), way(6, 108, 8), way(6, 109, 9), way(6, 110, 10), way(6, 111, 11),
    )

    def heard(self, *calls):
        """Of 8 to 11, the one that each event from 108 to 111 leads to: which were raised, in order."""
        return [one for one in trail(*self.CHART, *calls, START, send(1)) if 8 <= one <= 11]

    def test_leaving_then_the_way_then_coming(self):
        calls = (way(3, 1, 4), on(4, 0, 0, 110, 0), act(4, 0, 109, 0), on(3, 1, 0, 108, 0))
        self.assertEqual(self.heard(*calls), [8, 9, 10])

    def test_acts_in_the_order_in_which_they_were_told(self):
        acts = (act(4, 0, 110, 0), act(4, 0, 108, 0), act(4, 0, 111, 0), act(4, 0, 109, 0))
        self.assertEqual(self.heard(way(3, 1, -1), *acts), [10, 8, 11, 9])
        leaving = (on(3, 1, 0, 110, 0), on(3, 1, 0, 108, 0), on(3, 1, 0, 111, 0), on(3, 1, 0, 109, 0))
        self.assertEqual(self.heard(way(3, 1, 4), *leaving), [10, 8, 11, 9])
        coming = (on(4, 0, 0, 110, 0), on(4, 0, 0, 108, 0), on(4, 0, 0, 111, 0), on(4, 0, 0, 109, 0))
        self.assertEqual(self.heard(way(3, 1, 4), *coming), [10, 8, 11, 9])

    def test_ways_acts_way_by_way_as_they_are_taken(self):
        # 3 is ahead of 7, though its way is told last.
        calls = (way(7, 1, -1), act(4, 0, 110, 0), act(4, 0, 111, 0), way(3, 1, -1), act(5, 0, 108, 0),
                 act(5, 0, 109, 0))
        self.assertEqual(self.heard(*calls), [8, 9, 10, 11])

    def test_all_is_left_ahead_of_the_ways_acts_and_these_ahead_of_all_that_is_come_to(self):
        calls = (way(3, 1, 4), act(4, 1, 0, 1), act(4, 2, 1, 10), way(7, 1, 8), act(5, 2, 2, 10),
                 on(7, 1, 1, 1, 1), on(7, 1, 1, 2, 2), on(3, 1, 2, 1, 100), on(3, 1, 2, 2, 100),
                 on(4, 0, 1, 0, 5), on(8, 0, 2, 0, 7))
        # 7 is left ahead of 3; then 10 is added; 4 is come to ahead of 8.
        self.assertEqual(numbers(*self.CHART, *calls, START, send(1)), [12, 111, 112])

    def test_the_greatest_number_is_left_first(self):
        # 2 and 3 are within 1, 5 is within 3, 4 within 2: as they're left, each sets the number.
        chart = (state(0, 1), state(1, 0), state(1, 0), state(2, 0), state(3, 0), state(0, 0), way(1, 1, 6))
        acts = tuple(on(one, 1, 1, 0, one) for one in range(1, 6))
        self.assertEqual(step(chart, START, send(1)), [261, 260, 259, 258, 257, 6])
        self.assertEqual(numbers(*chart, *acts, START, send(1)), [1])

    def test_the_least_number_is_come_to_first(self):
        chart = (state(0, 0), state(0, 1), state(2, 0), state(2, 0), state(3, 0), state(4, 0), state(3, 0),
                 begins(3, 7), way(1, 1, 2))
        acts = tuple(on(one, 0, 1, 0, one) for one in range(2, 8))
        self.assertEqual(step(chart, START, send(1)), [257, 2, 3, 4, 6, 7])
        self.assertEqual(numbers(*chart, *acts, START, send(1)), [7])

    def test_by_numbers_not_by_what_is_within_what(self):
        # 4 and 5 are side by side in 3; 6 is within 4, 7 within 5.
        chart = (state(0, 0), state(0, 0), state(0, 1), state(3, 0), state(3, 0), state(4, 0), state(5, 0),
                 way(1, 1, 3), way(3, 2, 1))
        self.assertEqual(step(chart, START, send(1)), [257, 3, 4, 5, 6, 7])
        self.assertEqual(step(chart, START, send(1), send(2)), [263, 262, 261, 260, 259, 1])


if __name__ == "__main__":
    unittest.main()
