"""Many lines, made by rule from fixed seeds: the program answers what the second reading of the document does."""

import random
import unittest

import model
from lines import ALL, BEGIN, GREATEST, LEAST, START, flat, is_in, number, send, split, take
from statecharts.desk import answers

LINES = 150


def tree(chance):
    """Calls of state and begins, most of them taken, and how many states there are with 0."""
    kinds = [0]
    calls = []
    many = chance.choice((0, 0, 0, 0, 1, 1, 2, 3, 4))
    for turn in range(chance.randint(2, 20)):
        parent = chance.choice((chance.randrange(len(kinds)), len(kinds) - 1))
        kind = chance.choice((0, 0, 1, 2, 3, 4, many))
        # So that most run for a while: an end in 0 is rare.
        if parent == 0 and kind == 2 and chance.random() < 0.9:
            continue
        fits = kinds[parent] < 2 and not (parent == 0 and kind >= 3) and not (kinds[parent] == 1 and kind == 2)
        if fits:
            kinds.append(kind)
        if fits or chance.random() < 0.05:
            calls.append([1, parent, kind])
    # So that most can be started: each history gets a part beside it.
    for one in [row[1] for row in calls if row[2] >= 3]:
        if kinds[one] < 2 and chance.random() < 0.9:
            kinds.append(0)
            calls.append([1, one, 0])
    for turn in range(chance.randint(0, 4)):
        calls.append([2, chance.randrange(len(kinds)), chance.randrange(len(kinds))])
    return calls, len(kinds)


def some_act(chance, events):
    """An act; what it raises is sent seldom, so that not all charts go on by themselves for ever."""
    kind = chance.choice((0, 1, 2, 2))
    much = chance.choice((-2, -1, 1, 2, 3, LEAST, GREATEST))
    return [kind, chance.randint(events, events + 2) if kind == 0 else chance.randint(0, 2), much]


def line(seed):
    """A chart and a run of it, a list a call."""
    chance = random.Random(seed)
    calls, states = tree(chance)
    ways = chance.randint(0, 40)
    events = chance.choice((1, 2, 3, 5))
    by_none = chance.random() < 0.3
    for turn in range(ways):
        usual = chance.randint(1, events + 2)
        event = chance.choice((256 + chance.randrange(states), 0 if by_none else usual) + (usual,) * 8)
        target = chance.choice((-1,) + (chance.randrange(states),) * 6)
        calls.append([3, chance.randrange(states), event, target])
    for turn in range(chance.randint(0, 10)):
        calls.append([4, chance.randint(0, ways), chance.randint(0, 3), chance.randint(0, 2), chance.randint(-2, 4)])
    for turn in range(chance.randint(0, 8)):
        calls.append([5, chance.randint(0, ways)] + some_act(chance, events))
        calls.append([6, chance.randrange(states), chance.randint(0, 1)] + some_act(chance, events))
    calls.append(START)
    for turn in range(chance.randint(5, 30)):
        calls.append(send(chance.randint(1, events)))
    looks = [is_in(one) for one in range(states)] + [number(which) for which in range(3)]
    return [BEGIN] + calls + [take(3), take(ALL)] + looks


class SecondReading(unittest.TestCase):
    def test_the_same_answers(self):
        seen = {}
        for seed in range(LINES):
            rows = line(seed)
            with self.subTest(seed=seed):
                told = split(answers(flat(rows)))
                self.assertEqual(told, model.answers(rows))
            for row, answer in zip(rows, told):
                seen[row[0], answer[0] if row[0] in (7, 8) else min(answer[0], 1)] = True
        # That they are worth the while: each call of a run was answered in each of these ways.
        for both in ((7, 0), (7, 1), (7, -1), (8, 0), (8, 1), (8, -4), (8, -5), (9, 0), (9, 1), (11, 0), (11, 1)):
            self.assertIn(both, seen)


if __name__ == "__main__":
    unittest.main()
