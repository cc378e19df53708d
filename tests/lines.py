"""What the tests share: lines of calls, and how their answers are read."""

from statecharts.desk import answers

LEAST = -2147483648
GREATEST = 2147483647

BEGIN = [0]
START = [7]
ALL = 65536


def state(parent, kind):
    return [1, parent, kind]


def begins(state, part):
    return [2, state, part]


def way(source, event, target):
    return [3, source, event, target]


def guard(way, ask, which, much):
    return [4, way, ask, which, much]


def act(way, kind, which, much):
    return [5, way, kind, which, much]


def on(state, leaving, kind, which, much):
    return [6, state, leaving, kind, which, much]


def send(event):
    return [8, event]


def is_in(state):
    return [9, state]


def number(which):
    return [10, which]


def take(most):
    return [11, most]


def flat(rows):
    return [number for row in rows for number in row]


def split(told):
    """The answers of a line, a list each."""
    rows = []
    at = 0
    while at < len(told):
        rows.append(told[at + 1:at + 1 + told[at]])
        at += 1 + told[at]
    return rows


def rows(*calls):
    """The answer of each call, on a line that begins with begin."""
    told = split(answers(flat((BEGIN,) + calls)))
    assert len(told) == 1 + len(calls) and told[0] == [0], told
    return told[1:]


def heads(*calls):
    """The first number of each call's answer, on a line that begins with begin."""
    return [row[0] for row in rows(*calls)]


def last_row(*calls):
    """The last call's answer, where the calls before it are taken."""
    told = rows(*calls)
    assert all(row[0] >= 0 for row in told[:-1]), told
    return told[-1]


def last(*calls):
    """The first number of the last call's answer, where the calls before it are taken."""
    return last_row(*calls)[0]


def trail(*calls):
    """What has been come to and left in all these calls, which are taken."""
    return last_row(*calls, take(ALL))[1:]


def step(chart, *calls):
    """What the last call comes to and leaves, on a chart on which those before it are made."""
    return last_row(*chart, *calls[:-1], take(ALL), calls[-1], take(ALL))[1:]


def inside(*calls):
    """The states that one is in behind all these calls."""
    told = rows(*calls, *[is_in(one) for one in range(64)])[-64:]
    return [one for one in range(64) if told[one] == [1]]


def numbers(*calls):
    """The numbers behind all these calls, up to the last one that isn't 0."""
    told = rows(*calls, *[number(which) for which in range(16)])[-16:]
    assert all(len(row) == 2 and row[0] == 0 for row in told), told
    found = [row[1] for row in told]
    while found and found[-1] == 0:
        found.pop()
    return found


def picture(chart):
    """All that a chart is told, and whether it runs, to be held beside what it is later."""
    return (
        [(one.parent, one.kind, one.told_part) for one in chart.states],
        [(one.source, one.event, one.target, one.ask, one.which, one.much, list(one.acts))
         for one in chart.ways],
        [(list(one.coming_acts), list(one.leaving_acts)) for one in chart.states],
        chart.run is not None,
    )
