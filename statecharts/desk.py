"""The calls on a chart, told as one list of whole numbers, and their answers."""

from statecharts.chart import Chart

BEGIN = 0
STATE = 1
BEGINS = 2
WAY = 3
GUARD = 4

# How many numbers are handed over with each call, by the call's number.
HANDED = {0: 0, 1: 2, 2: 2, 3: 3, 4: 4, 5: 4}

RUNNING = -3


def tell(chart, call, given):
    """What a call answers by which a piece of the chart is told."""
    # Ahead of all else that a call may be refused for: a chart is not changed as it runs.
    if chart.runs:
        return RUNNING
    if call == STATE:
        return chart.state(given[0], given[1])
    if call == BEGINS:
        return chart.begins(given[0], given[1])
    if call == WAY:
        return chart.way(given[0], given[1], given[2])
    if call == GUARD:
        return chart.guard(given[0], given[1], given[2], given[3])
    # What is left is act, 5.
    return chart.act(given[0], given[1], given[2], given[3])


def answer(chart, call, given):
    """The numbers that one call answers."""
    if call == BEGIN:
        return [chart.begin()]
    return [tell(chart, call, given)]


def answers(calls):
    """For each call, in order: how many numbers are answered, and these."""
    chart = Chart()
    told = []
    at = 0
    while at < len(calls):
        call = calls[at]
        behind = at + 1 + HANDED[call]
        numbers = answer(chart, call, calls[at + 1:behind])
        told.append(len(numbers))
        told.extend(numbers)
        at = behind
    return told
