"""A second reading of the document, by sets and recursion and with no care for speed.

It's held beside the program on many lines; it shares no code with it, and steps as the
well-known algorithm of SCXML does: what is come to is gathered downwards and upwards in turn.
"""


class Model:
    def __init__(self):
        self.begin()

    def begin(self):
        self.parent = [None]
        self.kind = [0]
        self.told = {}
        self.ways = []
        self.acts = {}
        self.runs = False
        return [0]

    # The tree.

    def around(self, state, upto=None):
        found = []
        state = self.parent[state]
        while state is not None and state != upto:
            found.append(state)
            state = self.parent[state]
        return found

    def within(self, state, outer):
        return outer in self.around(state)

    def parts(self, state):
        return [one for one in range(len(self.kind)) if self.parent[one] == state and self.kind[one] < 3]

    def beginning(self, state):
        return self.told.get(state, min(self.parts(state), default=None))

    def there(self, state):
        return 0 <= state < len(self.kind)

    def act_is_wrong(self, kind, which):
        return not (kind == 0 and 1 <= which <= 255 or kind in (1, 2) and 0 <= which <= 15)

    # The calls.

    def call(self, call, given):
        if call == 0:
            return self.begin()
        if call <= 7 and self.runs:
            return [-3]
        if call >= 8 and not self.runs:
            return [-4]
        return getattr(self, 'call_%d' % call)(*given)

    def call_1(self, parent, kind):
        if not self.there(parent) or self.kind[parent] >= 2 or not 0 <= kind <= 4:
            return [-1]
        if parent == 0 and kind >= 3 or self.kind[parent] == 1 and kind == 2:
            return [-1]
        if len(self.kind) >= 64:
            return [-2]
        self.parent.append(parent)
        self.kind.append(kind)
        return [len(self.kind) - 1]

    def call_2(self, state, part):
        if not self.there(state) or self.kind[state] != 0 or part not in self.parts(state):
            return [-1]
        self.told[state] = part
        return [0]

    def call_3(self, source, event, target):
        if not self.there(source) or source == 0 or self.kind[source] == 2:
            return [-1]
        if target != -1 and (not self.there(target) or target == 0):
            return [-1]
        if not 0 <= event <= 319 or target == -1 and event == 0:
            return [-1]
        if self.kind[source] >= 3:
            if target == -1 or self.kind[target] >= 3 or not self.within(target, self.parent[source]):
                return [-1]
        if len(self.ways) >= 256:
            return [-2]
        self.ways.append({'source': source, 'event': event, 'target': target, 'ask': (0, 0, 0), 'acts': []})
        return [len(self.ways) - 1]

    def call_4(self, way, ask, which, much):
        if not 0 <= way < len(self.ways) or not 0 <= ask <= 3 or not 0 <= which <= 15:
            return [-1]
        self.ways[way]['ask'] = (ask, which, much)
        return [0]

    def add(self, acts, kind, which, much):
        if self.act_is_wrong(kind, which):
            return [-1]
        if len(acts) >= 16:
            return [-2]
        acts.append((kind, which, much))
        return [0]

    def call_5(self, way, kind, which, much):
        if not 0 <= way < len(self.ways):
            return [-1]
        return self.add(self.ways[way]['acts'], kind, which, much)

    def call_6(self, state, leaving, kind, which, much):
        if not self.there(state) or state == 0 or self.kind[state] >= 3:
            return [-1]
        return self.add(self.acts.setdefault((state, leaving != 0), []), kind, which, much)

    def call_7(self):
        for state in range(len(self.kind)):
            if (state == 0 or self.kind[state] >= 3) and not self.parts(self.parent[state] or 0):
                return [-1]
        self.runs = True
        self.over = False
        self.config = set()
        self.memory = {}
        self.numbers = [0] * 16
        self.queue = []
        self.trail = []
        entered = set()
        self.down(0, entered)
        self.enter(entered - {0})
        return [self.settle()]

    def call_8(self, event):
        if not 1 <= event <= 255:
            return [-1]
        if self.over:
            return [-5]
        if len(self.trail) > 65536:
            return [-2]
        self.microstep(self.enabled(event))
        return [self.settle()]

    def call_9(self, state):
        if not self.there(state):
            return [-1]
        return [int(state in self.config)]

    def call_10(self, which):
        return [0, self.numbers[which]] if 0 <= which <= 15 else [-1]

    def call_11(self, most):
        if not 1 <= most <= 65536:
            return [0]
        told, self.trail = self.trail[:most], self.trail[most:]
        return [len(told)] + told

    # A run.

    def settle(self):
        steps = 0
        while True:
            ways = self.enabled(0)
            if self.over or not ways and not self.queue:
                self.queue = []
                return 0
            if steps == 1000:
                self.queue = []
                return 1
            if not ways:
                ways = self.enabled(self.queue.pop(0))
            self.microstep(ways)
            steps += 1

    def holds(self, way):
        ask, which, much = way['ask']
        number = self.numbers[which]
        return (True, number == much, number < much, number >= much)[ask]

    def enabled(self, event):
        found = []
        for state in sorted(one for one in self.config if not self.parts(one)):
            for source in [state] + self.around(state):
                fit = [way for way in self.ways
                       if way['source'] == source and way['event'] == event and self.holds(way)]
                if fit:
                    if not any(fit[0] is way for way in found):
                        found.append(fit[0])
                    break
        return self.without_conflicts(found)

    def without_conflicts(self, ways):
        kept = []
        for way in ways:
            preempted = False
            removed = []
            for other in kept:
                if self.exits(way) & self.exits(other):
                    if self.within(way['source'], other['source']):
                        removed.append(other)
                    else:
                        preempted = True
                        break
            if not preempted:
                kept = [one for one in kept if not any(one is gone for gone in removed)] + [way]
        return kept

    def effective(self, state):
        if self.kind[state] < 3:
            return {state}
        if state in self.memory:
            return self.memory[state]
        return self.effective(self.default(state))

    def default(self, history):
        for way in self.ways:
            if way['source'] == history:
                return way['target']
        return self.beginning(self.parent[history])

    def domain(self, way):
        targets = self.effective(way['target'])
        for outer in self.around(way['source']):
            if self.kind[outer] == 0 and all(self.within(one, outer) for one in targets):
                return outer

    def exits(self, way):
        if way['target'] == -1:
            return set()
        domain = self.domain(way)
        return {state for state in self.config if self.within(state, domain)}

    def microstep(self, ways):
        domains = [None if way['target'] == -1 else self.domain(way) for way in ways]
        gone = set()
        for way in ways:
            gone |= self.exits(way)
        for state in gone:
            for history in range(len(self.kind)):
                if self.parent[history] == state and self.kind[history] == 3:
                    self.memory[history] = {one for one in self.config if self.parent[one] == state}
                if self.parent[history] == state and self.kind[history] == 4:
                    self.memory[history] = {one for one in self.config
                                            if self.within(one, state) and not self.parts(one)}
        for state in sorted(gone, reverse=True):
            self.config.remove(state)
            self.trail.append(256 + state)
            self.execute(self.acts.get((state, True), []))
        for way in ways:
            self.execute(way['acts'])
        entered = set()
        for way, domain in zip(ways, domains):
            if domain is not None:
                for state in self.effective(way['target']):
                    self.down(state, entered)
                for state in self.effective(way['target']):
                    self.up(state, domain, entered)
        self.enter(entered)

    def down(self, state, entered):
        entered.add(state)
        if self.kind[state] == 1:
            self.others(state, entered)
        elif self.parts(state):
            self.down(self.beginning(state), entered)

    def up(self, state, domain, entered):
        for outer in self.around(state, domain):
            entered.add(outer)
            if self.kind[outer] == 1:
                self.others(outer, entered)

    def others(self, state, entered):
        for part in self.parts(state):
            if not any(one == part or self.within(one, part) for one in entered):
                self.down(part, entered)

    def enter(self, states):
        for state in sorted(states - self.config):
            self.config.add(state)
            self.trail.append(state)
            self.execute(self.acts.get((state, False), []))
            if self.kind[state] == 2:
                parent = self.parent[state]
                if parent == 0:
                    self.over = True
                    continue
                self.queue.append(256 + parent)
                outer = self.parent[parent]
                if self.kind[outer] == 1 and all(self.ended(part) for part in self.parts(outer)):
                    self.queue.append(256 + outer)

    def ended(self, state):
        if self.kind[state] == 1:
            return all(self.ended(part) for part in self.parts(state))
        return any(self.kind[part] == 2 and part in self.config for part in self.parts(state))

    def execute(self, acts):
        for kind, which, much in acts:
            if kind == 0:
                self.queue.append(which)
            elif kind == 1:
                self.numbers[which] = much
            else:
                total = (self.numbers[which] + much) & 0xFFFFFFFF
                self.numbers[which] = total - (1 << 32) if total >> 31 else total


def answers(rows):
    """What a line answers, told as one list a call; the answers are one list a call, too."""
    model = Model()
    return [model.call(row[0], row[1:]) for row in rows]
