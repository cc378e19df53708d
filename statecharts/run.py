"""A chart as it runs: the states that one is in, and the steps from some to others."""

from statecharts.chart import (
    DEEP, END, FULL, LAST_NUMBER, LAST_RAISED, NONE, RAISED, SET, SIDE_BY_SIDE, WRONG, is_number,
)
from statecharts.marks import mark, marked
from statecharts.plan import Plan

OVER = -5

BY_NONE = 0
DONE = 256
LEFT = 256

MOST_STEPS = 1000
MOST_WAITING = 65536

SIGN = 2147483648
WRAP = 4294967296


def with_sign(number):
    """A whole number modulo 2^32, as 32 bits with sign."""
    return (number + SIGN) % WRAP - SIGN


def is_so(ask, number, much):
    """Whether the number is what a way asks of it."""
    if ask == 1:
        return number == much
    if ask == 2:
        return number < much
    return number >= much


class Move:
    """A way that is taken: what it stays in and what it leaves, settled as the step begins."""

    def __init__(self, path, stays, leaves):
        self.path = path
        self.stays = stays
        self.leaves = leaves


class Run:
    """A run of a chart. Where one is, what histories remember, and what's to be told of it."""

    def __init__(self, chart):
        self.plan = Plan(chart)
        self.numbers = [0] * (LAST_NUMBER + 1)
        # What each state leads to: a history to its first way's target, till it remembers something.
        self.leads = list(self.plan.first_leads)
        # 0 is none of them: one is in it always, and it's never told.
        self.active = 0
        self.over = False
        self.raised = []
        # How many of those raised have been taken up: cheaper than to move the others forward.
        self.heard = 0
        self.trail = []

    def start(self):
        self.come(self.plan.filled(mark(0)) & ~mark(0))
        return self.settle()

    def send(self, event):
        if not 1 <= event <= LAST_RAISED:
            return WRONG
        if self.over:
            return OVER
        if len(self.trail) > MOST_WAITING:
            return FULL
        self.step(self.moves(event))
        return self.settle()

    def is_in(self, state):
        if not 0 <= state < len(self.plan.states):
            return WRONG
        return 1 if self.active & mark(state) != 0 else 0

    def number(self, which):
        if not is_number(which):
            return [WRONG]
        return [0, self.numbers[which]]

    def take(self, most):
        if not 1 <= most <= MOST_WAITING:
            return [0]
        told = self.trail[:most]
        self.trail = self.trail[most:]
        return [len(told)] + told

    def settle(self):
        """Steps till nothing is left to do (0), it's the end of it all (0), or they are too many (1)."""
        made = 0
        went = 0
        while not self.over:
            moves = self.moves(BY_NONE)
            if not moves and self.heard == len(self.raised):
                break
            if made == MOST_STEPS:
                went = 1
                break
            if not moves:
                moves = self.moves(self.raised[self.heard])
                self.heard += 1
            self.step(moves)
            made += 1
        self.raised = []
        self.heard = 0
        return went

    def moves(self, event):
        """The ways taken at an event that agree."""
        kept = []
        for number in self.taken(event):
            kept = self.agreed(kept, self.move(self.plan.ways[number]))
        return kept

    def taken(self, event):
        """The numbers of the ways taken at an event, each once, by growing numbers of the plain states."""
        found = {}
        for place, numbers in self.plan.offers.get(event, {}).items():
            if self.active & place != 0:
                number = self.first_so(numbers)
                if number != NONE:
                    found[number] = True
        return list(found)

    def first_so(self, numbers):
        """The first of these ways of which what's asked is so; none if there isn't one."""
        for number in numbers:
            way = self.plan.ways[number]
            if way.ask == 0 or is_so(way.ask, self.numbers[way.which], way.much):
                return number
        return NONE

    def move(self, way):
        """What taking the way would stay in and leave."""
        if way.target == NONE:
            return Move(way, NONE, 0)
        stays = self.plan.nearest(way.source, self.leads[way.target])
        return Move(way, stays, self.active & self.plan.inner[stays])

    def agreed(self, kept, more):
        """Those of the moves kept and of one more that agree."""
        if more.leaves == 0:
            return kept + [more]
        rivals = [one for one in kept if one.leaves & more.leaves != 0]
        around = self.plan.around[more.path.source]
        for one in rivals:
            if around & mark(one.path.source) == 0:
                return kept
        return [one for one in kept if one.leaves & more.leaves == 0] + [more]

    def step(self, moves):
        """All of these moves, which agree, at once."""
        left = 0
        for one in moves:
            left |= one.leaves
        self.remember(left)
        self.leave(left)
        for one in moves:
            self.do(one.path.acts)
        self.come(self.come_to(moves) & ~self.active)

    def remember(self, left):
        """Histories whose parents are left keep where one is in these, before anything is left."""
        for history in self.plan.histories:
            one = self.plan.states[history]
            if left & mark(one.parent) == 0:
                continue
            if one.kind == DEEP:
                self.leads[history] = self.active & self.plan.inner[one.parent] & self.plan.plain
            else:
                self.leads[history] = self.active & self.plan.inner_parts[one.parent]

    def leave(self, left):
        for state in reversed(marked(left)):
            self.active &= ~mark(state)
            self.trail.append(LEFT + state)
            self.do(self.plan.states[state].leaving_acts)

    def come_to(self, moves):
        """The states that the targets of these moves come to."""
        found = 0
        for one in moves:
            if one.path.target == NONE:
                continue
            for state in marked(self.leads[one.path.target]):
                found |= mark(state) | self.plan.around[state] & self.plan.inner[one.stays]
        return self.plan.filled(found)

    def come(self, states):
        for state in marked(states):
            self.active |= mark(state)
            self.trail.append(state)
            self.do(self.plan.states[state].coming_acts)
            if self.plan.states[state].kind == END:
                self.end(self.plan.states[state].parent)

    def end(self, parent):
        """An end in that parent has been come to."""
        if parent == 0:
            self.over = True
            return
        self.raised.append(DONE + parent)
        outer = self.plan.states[parent].parent
        if self.plan.states[outer].kind == SIDE_BY_SIDE and self.plan.has_ended(outer, self.active):
            self.raised.append(DONE + outer)

    def do(self, acts):
        for kind, which, much in acts:
            if kind == RAISED:
                self.raised.append(which)
            elif kind == SET:
                self.numbers[which] = much
            else:
                self.numbers[which] = with_sign(self.numbers[which] + much)
