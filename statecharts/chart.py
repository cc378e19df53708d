"""A chart as it is told, piece by piece: its states, and the ways between them."""

NONE = -1

ORDINARY = 0
SIDE_BY_SIDE = 1
END = 2
SHALLOW = 3
DEEP = 4

RAISED = 0
SET = 1
ADDED = 2

WRONG = -1
FULL = -2

MOST_STATES = 64
MOST_WAYS = 256
MOST_ACTS = 16
LAST_RAISED = 255
LAST_EVENT = 319
LAST_ASK = 3
LAST_NUMBER = 15


def is_number(which):
    """Whether there is a number of that place."""
    return 0 <= which <= LAST_NUMBER


def is_act(kind, which):
    """Whether that is an act, however much is told with it."""
    if kind == RAISED:
        return 1 <= which <= LAST_RAISED
    return SET <= kind <= ADDED and is_number(which)


def add_act(acts, kind, which, much):
    """An act more behind those that there are; what telling it answers."""
    if not is_act(kind, which):
        return WRONG
    if len(acts) == MOST_ACTS:
        return FULL
    acts.append((kind, which, much))
    return 0


class State:
    """A state: what it is within, its kind, the part told as its beginning, and its acts."""

    def __init__(self, parent, kind):
        self.parent = parent
        self.kind = kind
        self.told_part = NONE
        self.coming_acts = []
        self.leaving_acts = []

    def is_history(self):
        return self.kind == SHALLOW or self.kind == DEEP


class Way:
    """A way: where it leads from and to, by what, what it asks, and its acts."""

    def __init__(self, source, event, target):
        self.source = source
        self.event = event
        self.target = target
        self.ask = 0
        self.which = 0
        self.much = 0
        self.acts = []


class Chart:
    """A chart; each call on it answers a number, below 0 if it is refused."""

    def __init__(self):
        self.begin()

    def begin(self):
        # 0 has no parent, so that it is a part of nothing, not of itself either.
        self.states = [State(NONE, ORDINARY)]
        self.ways = []
        # The desk puts a run here as it starts one, so that a chart knows nothing of runs.
        self.run = None
        return 0

    def state(self, parent, kind):
        if not self.may_hold(parent, kind):
            return WRONG
        if len(self.states) == MOST_STATES:
            return FULL
        self.states.append(State(parent, kind))
        return len(self.states) - 1

    def begins(self, state, part):
        if not self.has_state(state) or self.states[state].kind != ORDINARY:
            return WRONG
        if part not in self.parts(state):
            return WRONG
        self.states[state].told_part = part
        return 0

    def way(self, source, event, target):
        if not self.may_lead(source, event, target):
            return WRONG
        if len(self.ways) == MOST_WAYS:
            return FULL
        self.ways.append(Way(source, event, target))
        return len(self.ways) - 1

    def guard(self, way, ask, which, much):
        if not self.has_way(way) or not 0 <= ask <= LAST_ASK or not is_number(which):
            return WRONG
        guarded = self.ways[way]
        guarded.ask = ask
        guarded.which = which
        guarded.much = much
        return 0

    def act(self, way, kind, which, much):
        if not self.has_way(way):
            return WRONG
        return add_act(self.ways[way].acts, kind, which, much)

    def on(self, state, leaving, kind, which, much):
        if state == 0 or not self.has_state(state) or self.states[state].is_history():
            return WRONG
        one = self.states[state]
        acts = one.coming_acts if leaving == 0 else one.leaving_acts
        return add_act(acts, kind, which, much)

    def has_state(self, state):
        return 0 <= state < len(self.states)

    def has_way(self, way):
        return 0 <= way < len(self.ways)

    def parts(self, state):
        """The states of kinds 0 to 2 right in a state, in order of their numbers."""
        found = []
        for number, one in enumerate(self.states):
            if one.parent == state and not one.is_history():
                found.append(number)
        return found

    def beginning(self, state):
        """The part told for a state, else its first part; none if it is plain."""
        if self.states[state].told_part != NONE:
            return self.states[state].told_part
        return min(self.parts(state), default=NONE)

    def is_within(self, state, outer):
        """Whether the outer state is around the other one."""
        around = self.states[state].parent
        while around != NONE and around != outer:
            around = self.states[around].parent
        return around == outer

    def may_start(self):
        """Whether 0 has parts, and the parent of each history has, too."""
        if not self.parts(0):
            return False
        for one in self.states:
            if one.is_history() and not self.parts(one.parent):
                return False
        return True

    def may_hold(self, parent, kind):
        """Whether a state of that kind may be told in that parent."""
        if not self.has_state(parent) or not ORDINARY <= kind <= DEEP:
            return False
        holder = self.states[parent]
        if holder.kind == END or holder.is_history():
            return False
        if parent == 0 and kind >= SHALLOW:
            return False
        return holder.kind != SIDE_BY_SIDE or kind != END

    def may_lead(self, source, event, target):
        """Whether such a way may be told."""
        if source == 0 or not self.has_state(source):
            return False
        if target == 0 or target != NONE and not self.has_state(target):
            return False
        if not 0 <= event <= LAST_EVENT or event == 0 and target == NONE:
            return False
        start = self.states[source]
        if start.is_history():
            return self.may_recall(start.parent, target)
        return start.kind != END

    def may_recall(self, parent, target):
        """Whether a history in that parent may lead to the target."""
        if target == NONE or self.states[target].is_history():
            return False
        return self.is_within(target, parent)
