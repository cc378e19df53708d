"""Ends: the end of it all, parents that are done, and states side by side that are done with their last part."""

import unittest

from lines import START, act, begins, heads, inside, numbers, on, send, state, step, trail, way

# 1 is side by side, with 2, which holds 3 and the end 4, and 5, which holds 6 and the end 7. The event 1 leads
# to 4, 2 to 7, 3 to both; 4 goes back to the beginning.
PAIR = (
    state(0, 1), state(1, 0), state(2, 0), state(2, 2), state(1, 0), state(5, 0), state(5, 2),
    way(3, 1, 4), way(6, 2, 7), way(3, 3, 4), way(6, 3, 7), way(1, 4, 1),
)
PAIR_WAYS = 5


def counting(first, *states):
    """Ways of 1, without a target, the first of that number: each counts that a state is done, in its number."""
    calls = []
    for place, one in enumerate(states):
        calls += [way(1, 256 + one, -1), act(first + place, 2, one, 1)]
    return tuple(calls)


class EndOfItAll(unittest.TestCase):
    CHART = (state(0, 0), state(0, 0), state(0, 2), way(1, 1, 3), way(1, 2, 2))

    def test_an_end_in_0(self):
        self.assertEqual(heads(*self.CHART, START, send(1), send(1))[-2:], [0, -5])
        self.assertEqual(inside(*self.CHART, START, send(1)), [3])
        self.assertEqual(trail(*self.CHART, START, send(1)), [1, 257, 3])

    def test_it_is_not_as_long_as_no_end_is_come_to(self):
        self.assertEqual(heads(*self.CHART, START, send(2), send(1))[-2:], [0, 0])

    def test_its_acts_are_done(self):
        chart = self.CHART + (on(3, 0, 1, 0, 7), act(0, 1, 1, 8), on(1, 1, 1, 2, 9))
        self.assertEqual(numbers(*chart, START, send(1)), [7, 8, 9])

    def test_nothing_goes_on_behind_it(self):
        chart = self.CHART + (act(0, 0, 5, 0), on(3, 0, 0, 5, 0), way(1, 5, 2), way(2, 5, 1))
        self.assertEqual(heads(*chart, START, send(1))[-1], 0)
        self.assertEqual(inside(*chart, START, send(1)), [3])

    def test_an_end_elsewhere_is_not_the_end_of_it_all(self):
        chart = (state(0, 0), state(1, 0), state(1, 2), way(2, 1, 3))
        self.assertEqual(heads(*chart, START, send(1), send(1))[-2:], [0, 0])

    def test_nor_are_all_parts_of_one_side_by_side_at_their_end(self):
        self.assertEqual(heads(*PAIR, START, send(1), send(2), send(1))[-3:], [0, 0, 0])


class Done(unittest.TestCase):
    def test_the_end_s_parent(self):
        chart = (state(0, 0), state(1, 0), state(1, 2), state(0, 0), way(2, 1, 3), way(1, 257, 4))
        self.assertEqual(step(chart, START, send(1)), [258, 3, 259, 257, 4])

    def test_the_end_s_parent_alone(self):
        # 2 within 1 is done; 1 is not, nor is 0.
        chart = (state(0, 0), state(1, 0), state(2, 0), state(2, 2), state(0, 0), way(3, 1, 4), way(1, 257, 5),
                 way(1, 256, 5), way(1, 259, 5), way(1, 260, 5))
        self.assertEqual(step(chart, START, send(1)), [259, 4])
        self.assertEqual(step(chart + (way(1, 258, 5),), START, send(1)), [259, 4, 260, 258, 257, 5])

    def test_by_start(self):
        chart = (state(0, 0), state(1, 2), state(0, 0), way(1, 257, 3))
        self.assertEqual(trail(*chart, START), [1, 2, 258, 257, 3])

    def test_the_last_state_s_number(self):
        chart = tuple(state(0, 0) for one in range(61)) + (state(61, 2), state(0, 0), begins(0, 61),
                                                           way(61, 317, 63))
        self.assertEqual(trail(*chart, START), [61, 62, 318, 317, 63])

    def test_each_time_that_an_end_is_come_to(self):
        chart = (state(0, 0), state(1, 0), state(1, 2), state(0, 0), way(2, 1, 3), way(1, 2, 1), way(1, 257, -1),
                 act(2, 2, 0, 1))
        self.assertEqual(numbers(*chart, START, send(1), send(2), send(1)), [2])

    def test_behind_the_end_s_acts(self):
        chart = (state(0, 0), state(1, 0), state(1, 2), state(0, 0), state(0, 0), way(2, 1, 3), on(3, 0, 0, 9, 0),
                 way(1, 257, 4), way(1, 9, 5))
        self.assertEqual(step(chart, START, send(1)), [258, 3, 259, 257, 5])

    def test_ahead_of_the_acts_of_what_is_come_to_behind_it(self):
        # 3 is the end in 2; 4 is come to behind it, and 5, in which 9 is raised, too.
        chart = (state(0, 1), state(1, 0), state(2, 2), state(1, 0), state(4, 0), state(0, 0), state(0, 0),
                 on(5, 0, 0, 9, 0), way(1, 9, 7), way(1, 258, 6))
        self.assertEqual(trail(*chart, START)[-1], 6)
        chart += (on(1, 0, 0, 9, 0),)
        self.assertEqual(trail(*chart, START)[-1], 7)


class SideBySide(unittest.TestCase):
    def test_done_with_its_last_part(self):
        chart = PAIR + counting(PAIR_WAYS, 1, 2, 5)
        self.assertEqual(numbers(*chart, START), [])
        self.assertEqual(numbers(*chart, START, send(1)), [0, 0, 1])
        self.assertEqual(numbers(*chart, START, send(1), send(2)), [0, 1, 1, 0, 0, 1])
        self.assertEqual(numbers(*chart, START, send(2)), [0, 0, 0, 0, 0, 1])
        self.assertEqual(numbers(*chart, START, send(2), send(1)), [0, 1, 1, 0, 0, 1])

    def test_behind_its_last_part(self):
        # That 5 is done leads to 8, and that 1 is done to 9; from the one there's no way to the other.
        chart = PAIR + (state(0, 0), state(0, 0))
        both = (way(1, 261, 8), way(1, 257, 9))
        self.assertEqual(trail(*chart, *both, START, send(1), send(2))[-1], 8)
        self.assertEqual(trail(*chart, *both[1:], START, send(1), send(2))[-1], 9)
        self.assertEqual(trail(*chart, *both, way(8, 257, 9), START, send(1), send(2))[-3:], [8, 264, 9])

    def test_not_where_its_other_part_has_left_its_end(self):
        chart = PAIR + counting(PAIR_WAYS, 1, 2, 5)
        self.assertEqual(numbers(*chart, START, send(1), send(4), send(2)), [0, 0, 1, 0, 0, 1])

    def test_not_by_an_end_deeper_in_a_part(self):
        # 2 holds 3, which holds 4 and the end 5: that's none of 2. 6 holds 7 and the end 8.
        chart = (state(0, 1), state(1, 0), state(2, 0), state(3, 0), state(3, 2), state(1, 0), state(6, 0),
                 state(6, 2), way(4, 1, 5), way(7, 2, 8)) + counting(2, 1, 2, 3, 6)
        self.assertEqual(numbers(*chart, START, send(1), send(2)), [0, 0, 0, 1, 0, 0, 1])

    def test_once_where_both_ends_are_come_to_in_one_step(self):
        chart = PAIR + counting(PAIR_WAYS, 1, 2, 5)
        self.assertEqual(numbers(*chart, START, send(3)), [0, 1, 1, 0, 0, 1])

    def test_by_then_only_what_has_been_come_to(self):
        # 2 and 3 are side by side; 4, 3's end, is come to ahead of 5, 2's: 1 is done with the latter.
        chart = (state(0, 1), state(1, 0), state(1, 0), state(3, 2), state(2, 2), state(0, 0), state(0, 0),
                 way(1, 258, 6), way(6, 257, 7))
        self.assertEqual(trail(*chart, START), [1, 2, 3, 4, 5, 261, 260, 259, 258, 257, 6, 262, 7])
        chart = chart[:-2] + (way(1, 259, 6), way(6, 258, 7), way(7, 257, 6))
        self.assertEqual(trail(*chart, START)[-5:], [6, 262, 7, 263, 6])

    def test_a_part_that_is_plain_has_no_end(self):
        chart = (state(0, 1), state(1, 0), state(2, 0), state(2, 2), state(1, 0), way(3, 1, 4), way(1, 257, -1),
                 act(1, 2, 1, 1))
        self.assertEqual(numbers(*chart, START, send(1)), [])

    def test_one_part_alone(self):
        chart = (state(0, 1), state(1, 0), state(2, 0), state(2, 2), way(3, 1, 4), way(1, 257, -1),
                 act(1, 2, 1, 1))
        self.assertEqual(numbers(*chart, START, send(1)), [0, 1])

    def test_a_plain_part_that_is_side_by_side_has_come_to_its_end(self):
        chart = (state(0, 1), state(1, 0), state(2, 0), state(2, 2), state(1, 1), way(3, 1, 4), way(1, 257, -1),
                 act(1, 2, 1, 1))
        self.assertEqual(numbers(*chart, START, send(1)), [0, 1])


class SideBySideWithin(unittest.TestCase):
    """1 is side by side, with 2 (3, the end 4), and 5, side by side with 6 (7, the end 8) and 9 (10, the end 11)."""

    CHART = (
        state(0, 1), state(1, 0), state(2, 0), state(2, 2), state(1, 1), state(5, 0), state(6, 0), state(6, 2),
        state(5, 0), state(9, 0), state(9, 2), way(3, 1, 4), way(7, 2, 8), way(10, 3, 11),
    )

    def counted(self, *events):
        """How often 1, 2, 5, 6 and 9 are done."""
        chart = self.CHART + counting(3, 1, 2, 5, 6, 9)
        told = numbers(*chart, START, *[send(event) for event in events]) + [0] * 10
        return [told[one] for one in (1, 2, 5, 6, 9)]

    def test_the_outer_one_is_done_with_its_own_part(self):
        self.assertEqual(self.counted(2), [0, 0, 0, 1, 0])
        self.assertEqual(self.counted(2, 3), [0, 0, 1, 1, 1])
        self.assertEqual(self.counted(2, 3, 1), [1, 1, 1, 1, 1])
        self.assertEqual(self.counted(3, 2, 1), [1, 1, 1, 1, 1])

    def test_not_as_long_as_the_inner_one_is_not(self):
        self.assertEqual(self.counted(1), [0, 1, 0, 0, 0])
        self.assertEqual(self.counted(2, 1), [0, 1, 0, 1, 0])
        self.assertEqual(self.counted(3, 1), [0, 1, 0, 0, 1])

    def test_that_the_inner_one_is_done_is_told_no_further(self):
        self.assertEqual(self.counted(1, 2, 3), [0, 1, 1, 1, 1])
        self.assertEqual(self.counted(1, 3, 2), [0, 1, 1, 1, 1])


if __name__ == "__main__":
    unittest.main()
