"""Settling: ways by no event, raised events in their order, and 1000 steps at most."""

import unittest

from lines import START, act, guard, heads, inside, last, numbers, on, rows, send, state, step, take, trail, way

# From 1 to itself by no event as long as the number 0 is below something: a step each, counted in it.
COUNT = (state(0, 0), way(1, 0, 1), act(0, 2, 0, 1))


def below(much):
    return guard(0, 2, 0, much)


class ByNoEvent(unittest.TestCase):
    def test_one_behind_another(self):
        chart = (state(0, 0), state(0, 0), state(0, 0), state(0, 0), way(1, 1, 2), way(2, 0, 3), way(3, 0, 4))
        self.assertEqual(step(chart, START, send(1)), [257, 2, 258, 3, 259, 4])

    def test_where_what_is_asked_is_so(self):
        chart = (state(0, 0), state(0, 0), way(1, 0, 2), guard(0, 3, 0, 3), way(1, 1, -1), act(1, 2, 0, 1))
        self.assertEqual(trail(*chart, START, send(1), send(1)), [1])
        self.assertEqual(trail(*chart, START, send(1), send(1), send(1)), [1, 257, 2])

    def test_the_inner_one_ahead_of_the_outer_one(self):
        chart = (state(0, 0), state(1, 0), state(1, 0), state(0, 0), way(1, 0, 4), way(2, 0, 3))
        self.assertEqual(trail(*chart, START), [1, 2, 258, 3, 259, 257, 4])

    def test_several_at_once_that_agree(self):
        chart = (state(0, 1), state(1, 0), state(2, 0), state(2, 0), state(1, 0), state(5, 0), state(5, 0),
                 way(3, 0, 4), way(6, 0, 7))
        self.assertEqual(trail(*chart, START), [1, 2, 3, 5, 6, 262, 259, 4, 7])

    def test_ahead_of_what_is_raised(self):
        # 2 raises 5 and goes on to 3 by no event: 5 is heard there.
        chart = (state(0, 0), state(0, 0), state(0, 0), state(0, 0), way(1, 1, 2), on(2, 0, 0, 5, 0), way(2, 5, 4),
                 way(2, 0, 3), way(3, 5, 1))
        self.assertEqual(step(chart, START, send(1)), [257, 2, 258, 3, 259, 1])

    def test_between_what_is_raised(self):
        # 5 and 6 are raised; 5 leads to 2, from there it goes on to 3 by no event, and 6 is heard there.
        chart = (state(0, 0), state(0, 0), state(0, 0), state(0, 0), way(1, 1, -1), act(0, 0, 5, 0),
                 act(0, 0, 6, 0), way(1, 5, 2), way(2, 6, 4), way(2, 0, 3), way(3, 6, 1))
        self.assertEqual(step(chart, START, send(1)), [257, 2, 258, 3, 259, 1])


class Raised(unittest.TestCase):
    def test_in_the_order_in_which_they_were_raised(self):
        # From 1 the event 5 leads to 2, and 6 to 3; from 2 the event 6 leads to 4.
        chart = (state(0, 0), state(0, 0), state(0, 0), state(0, 0), way(1, 1, -1), way(1, 2, -1), way(1, 5, 2),
                 way(1, 6, 3), way(2, 6, 4), act(0, 0, 5, 0), act(0, 0, 6, 0), act(1, 0, 6, 0), act(1, 0, 5, 0))
        self.assertEqual(step(chart, START, send(1)), [257, 2, 258, 4])
        self.assertEqual(step(chart, START, send(2)), [257, 3])

    def test_what_a_raised_event_raises_comes_behind_what_was_raised_before(self):
        # 1 raises 5 and 6; 5 raises 7; 7 ahead of 6 would lead to 3.
        chart = (state(0, 0), state(0, 0), state(0, 0), way(1, 1, -1), act(0, 0, 5, 0), act(0, 0, 6, 0),
                 way(1, 5, -1), act(1, 0, 7, 0), way(1, 6, 2), way(1, 7, 3), way(2, 7, 1))
        self.assertEqual(step(chart, START, send(1)), [257, 2, 258, 1])

    def test_the_first_and_the_last_event(self):
        for event in (1, 255):
            with self.subTest(event=event):
                chart = (state(0, 0), state(0, 0), on(1, 0, 0, event, 0), way(1, event, 2))
                self.assertEqual(trail(*chart, START), [1, 257, 2])

    def test_the_same_event_more_than_once(self):
        chart = (state(0, 0), way(1, 1, -1), act(0, 0, 5, 0), act(0, 0, 5, 0), act(0, 0, 5, 0), way(1, 5, -1),
                 act(1, 2, 0, 1))
        self.assertEqual(numbers(*chart, START, send(1)), [3])

    def test_at_which_no_way_is_taken_is_gone(self):
        # 5 is heard by nothing in 1; it isn't there any longer where 2 would hear it.
        chart = (state(0, 0), state(0, 0), state(0, 0), way(1, 1, -1), act(0, 0, 5, 0), way(1, 2, 2), way(2, 5, 3))
        self.assertEqual(step(chart, START, send(1), send(2)), [257, 2])

    def test_by_all_acts(self):
        chart = (state(0, 0), state(0, 0), way(1, 1, 2), on(1, 1, 0, 5, 0), act(0, 0, 6, 0), on(2, 0, 0, 7, 0),
                 way(2, 5, -1), way(2, 6, -1), way(2, 7, -1), act(1, 2, 0, 1), act(2, 2, 1, 1), act(3, 2, 2, 1))
        self.assertEqual(numbers(*chart, START, send(1)), [1, 1, 1])


class ThousandSteps(unittest.TestCase):
    def test_1000_and_nothing_more(self):
        self.assertEqual(last(*COUNT, below(1000), START), 0)
        self.assertEqual(numbers(*COUNT, below(1000), START), [1000])

    def test_1000_and_one_more(self):
        self.assertEqual(last(*COUNT, below(1001), START), 1)
        self.assertEqual(numbers(*COUNT, below(1001), START), [1000])

    def test_999(self):
        self.assertEqual(last(*COUNT, below(999), START), 0)
        self.assertEqual(numbers(*COUNT, below(999), START), [999])

    def test_the_send_s_own_is_none_of_them(self):
        # 2 goes round by no event; the send's own step leads to it.
        chart = (state(0, 0), state(0, 0), way(2, 0, 2), act(0, 2, 0, 1), way(1, 1, 2))
        for much, told in ((1000, 0), (1001, 1)):
            calls = chart + (guard(0, 2, 0, much), START, send(1))
            self.assertEqual(heads(*calls)[-1], told)
            self.assertEqual(numbers(*calls), [1000])
            self.assertEqual(len(trail(*calls)), 1 + 2 * 1001)

    def test_by_raised_events(self):
        chart = (state(0, 0), way(1, 1, -1), act(0, 0, 1, 0), act(0, 2, 0, 1))
        self.assertEqual(heads(*chart, START, send(1))[-1], 1)
        self.assertEqual(numbers(*chart, START, send(1)), [1001])
        for much, told in ((1001, 0), (1002, 1)):
            # Raised is as long as the number is below; the last one is heard by nothing, and counts.
            calls = chart + (guard(0, 2, 0, much - 1), START, send(1))
            self.assertEqual(heads(*calls)[-1], told)

    def test_a_step_by_an_event_at_which_no_way_is_taken_counts(self):
        # Start raises 9, heard by nothing, behind so many steps by no event.
        for raised in (1, 2, 16):
            raises = (on(1, 0, 0, 9, 0),) * raised
            chart = (state(0, 0), state(1, 0), way(2, 0, 2), act(0, 2, 0, 1)) + raises
            for more, told in ((-1, 0), (0, 0), (1, 1)):
                with self.subTest(raised=raised, more=more):
                    calls = chart + (guard(0, 2, 0, 1000 - raised + more), START)
                    self.assertEqual(last(*calls), told)

    def test_what_is_raised_is_forgotten(self):
        # 1 raises 5 as it's come to, and then goes round 2 by no event, for too long. 5 would lead to 3.
        chart = (state(0, 0), state(1, 0), state(0, 0), way(2, 0, 2), act(0, 2, 0, 1), guard(0, 2, 0, 1001),
                 on(1, 0, 0, 5, 0), way(1, 5, 3))
        self.assertEqual(last(*chart, START), 1)
        self.assertEqual(inside(*chart, START), [1, 2])
        # The send goes on with what is left to do by no event, and nothing is raised.
        self.assertEqual(heads(*chart, START, send(9))[-1], 0)
        self.assertEqual(inside(*chart, START, send(9)), [1, 2])
        self.assertEqual(inside(*chart, START, send(5)), [3])

    def test_without_a_break_it_is_not_forgotten(self):
        chart = (state(0, 0), state(1, 0), state(0, 0), way(2, 0, 2), act(0, 2, 0, 1), guard(0, 2, 0, 999),
                 on(1, 0, 0, 5, 0), way(1, 5, 3))
        self.assertEqual(last(*chart, START), 0)
        self.assertEqual(inside(*chart, START), [3])

    def test_it_goes_on_with_the_next_send(self):
        self.assertEqual(heads(*COUNT, below(2500), START, send(1), send(1), send(1))[-4:], [1, 1, 0, 0])
        self.assertEqual(numbers(*COUNT, below(2500), START, send(1)), [2000])
        self.assertEqual(numbers(*COUNT, below(2500), START, send(1), send(1), send(1)), [2500])

    def test_each_send_has_1000_of_its_own(self):
        chart = (state(0, 0), way(1, 0, 1), act(0, 2, 0, 1), guard(0, 2, 0, 900), way(1, 1, -1), act(1, 1, 0, 0))
        self.assertEqual(heads(*chart, START, send(1), send(1))[-3:], [0, 0, 0])

    def test_the_end_of_it_all_with_the_last_step(self):
        # 999 steps by no event, and one to the end 2; what is raised on the way there is forgotten.
        for much, told, behind in ((999, 0, -5), (1000, 1, 0)):
            chart = COUNT + (below(much), state(0, 2), way(1, 0, 2), guard(1, 3, 0, much), act(1, 0, 5, 0),
                             on(2, 0, 0, 5, 0))
            with self.subTest(much=much):
                self.assertEqual(heads(*chart, START, send(1))[-2:], [told, behind])
                self.assertEqual(inside(*chart, START), [2 if told == 0 else 1])

    def test_the_end_of_it_all_by_the_send_s_own_step(self):
        chart = (state(0, 0), state(0, 2), way(1, 1, 2), act(0, 0, 5, 0))
        self.assertEqual(heads(*chart, START, send(1), send(5))[-2:], [0, -5])

    def test_many_are_raised_at_once(self):
        # Each event raises 16 more: far more wait than are heard in 1000 steps.
        chart = (state(0, 0), way(1, 1, -1)) + (act(0, 0, 1, 0),) * 15 + (act(0, 2, 0, 1),)
        self.assertEqual(rows(*chart, START, send(1), take(1), send(2))[-4:], [[0], [1], [1, 1], [0]])
        self.assertEqual(numbers(*chart, START, send(1), send(2)), [1001])


if __name__ == "__main__":
    unittest.main()
