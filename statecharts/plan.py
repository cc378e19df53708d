"""A chart made ready to run: what each step asks of it, gathered once, since it changes no more."""

from statecharts.chart import END, NONE, ORDINARY, SIDE_BY_SIDE
from statecharts.marks import mark, marked, marks_of


def around_marks(states):
    """For each state the states around it."""
    around = [0]
    for one in states[1:]:
        around.append(around[one.parent] | mark(one.parent))
    return around


def inner_marks(states):
    """For each state the states within it."""
    inner = [0 for one in states]
    # A state's number is greater than its parent's: backwards, each is whole before it's handed up.
    for number in range(len(states) - 1, 0, -1):
        inner[states[number].parent] |= inner[number] | mark(number)
    return inner


def ways_from(chart):
    """For each state the numbers of its ways, in the order in which they were told."""
    numbers = [[] for one in chart.states]
    for number, way in enumerate(chart.ways):
        numbers[way.source].append(number)
    return numbers


def offers(chart, plain):
    """By event: for the set of each plain state the ways that it may take, its own ahead of its parent's."""
    found = {}
    own = ways_from(chart)
    for state in plain:
        at = state
        while at != NONE:
            for number in own[at]:
                by_place = found.setdefault(chart.ways[number].event, {})
                by_place.setdefault(mark(state), []).append(number)
            at = chart.states[at].parent
    return found


def first_leads(chart):
    """For each state the set to which it leads as long as no history remembers anything."""
    own = ways_from(chart)
    leads = []
    for number, one in enumerate(chart.states):
        if not one.is_history():
            leads.append(mark(number))
        elif own[number]:
            leads.append(mark(chart.ways[own[number][0]].target))
        else:
            leads.append(mark(chart.beginning(one.parent)))
    return leads


class Plan:
    """The states and ways of a chart, and the sets of states that its steps are made of."""

    def __init__(self, chart):
        numbers = list(range(len(chart.states)))
        self.states = chart.states
        self.ways = chart.ways
        self.around = around_marks(chart.states)
        self.inner = inner_marks(chart.states)
        self.inner_parts = [marks_of(chart.parts(number)) for number in numbers]
        self.firsts = [chart.beginning(number) for number in numbers]
        self.ends = marks_of([number for number in numbers if chart.states[number].kind == END])
        self.plain = marks_of([number for number in numbers if self.firsts[number] == NONE])
        self.histories = [number for number in numbers if chart.states[number].is_history()]
        self.first_leads = first_leads(chart)
        self.offers = offers(chart, marked(self.plain))

    def nearest(self, source, leads):
        """The nearest ordinary state around the source that has all those within it."""
        at = self.states[source].parent
        while self.states[at].kind != ORDINARY or leads & ~self.inner[at] != 0:
            at = self.states[at].parent
        return at

    def filled(self, come_to):
        """What's come to with these, which hold the states around one another: parts and beginnings."""
        found = come_to
        rest = come_to
        # The least number first: what a state brings along has greater ones, and is looked at behind it.
        while rest != 0:
            least = rest & -rest
            brought = self.brought(least.bit_length() - 1, found)
            found |= brought
            rest = rest & ~least | brought
        return found

    def brought(self, state, come_to):
        """What coming to a state brings along, right in it, where one comes to all these too."""
        if self.firsts[state] == NONE:
            return 0
        if self.states[state].kind == SIDE_BY_SIDE:
            return self.inner_parts[state]
        return 0 if come_to & self.inner[state] != 0 else mark(self.firsts[state])

    def has_ended(self, state, active):
        """Whether a state has come to its end, where one is in the active ones."""
        ended = 0
        # Backwards: a state's parts are settled before it.
        for number in range(len(self.states) - 1, state - 1, -1):
            inner_parts = self.inner_parts[number]
            if self.states[number].kind == SIDE_BY_SIDE:
                if inner_parts & ~ended == 0:
                    ended |= mark(number)
            elif inner_parts & self.ends & active != 0:
                ended |= mark(number)
        return ended & mark(state) != 0
