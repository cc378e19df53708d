"""What the tests share: lines of calls, and how their answers are read."""

from statecharts.desk import answers

LEAST = -2147483648
GREATEST = 2147483647

BEGIN = [0]


def state(parent, kind):
    return [1, parent, kind]


def begins(state, part):
    return [2, state, part]


def way(source, event, target):
    return [3, source, event, target]


def guard(way, ask, which, much):
    return [4, way, ask, which, much]


def act(way, kind, which, much):
    return [5, way, kind, which, much]


def flat(rows):
    return [number for row in rows for number in row]


def split(told):
    """The answers of a line, a list each."""
    rows = []
    at = 0
    while at < len(told):
        rows.append(told[at + 1:at + 1 + told[at]])
        at += 1 + told[at]
    return rows


def heads(*calls):
    """The first number of each call's answer, on a line that begins with begin."""
    rows = split(answers(flat((BEGIN,) + calls)))
    assert len(rows) == 1 + len(calls) and rows[0] == [0], rows
    return [row[0] for row in rows[1:]]


def last(*calls):
    """The first number of the last call's answer, where the calls before it are taken."""
    told = heads(*calls)
    assert all(number >= 0 for number in told[:-1]), told
    return told[-1]


def picture(chart):
    """All that a chart keeps, to be held beside what it keeps later."""
    return (
        [(one.parent, one.kind, one.told_part) for one in chart.states],
        [(one.source, one.event, one.target, one.ask, one.which, one.much, list(one.acts))
         for one in chart.ways],
        chart.runs,
    )
