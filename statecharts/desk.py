"""The calls on a chart, told as one list of whole numbers, and their answers."""

from statecharts.chart import WRONG, Chart
from statecharts.run import Run

BEGIN = 0
STATE = 1
BEGINS = 2
WAY = 3
GUARD = 4
ACT = 5
START = 7
SEND = 8
IN = 9
NUMBER = 10

# How many numbers are handed over with each call, by the call's number.
HANDED = {0: 0, 1: 2, 2: 2, 3: 3, 4: 4, 5: 4, 6: 5, 7: 0, 8: 1, 9: 1, 10: 1, 11: 1}

RUNNING = -3
IDLE = -4


def tell(chart, call, given):
    """What a call answers by which a piece of the chart is told."""
    if call == STATE:
        return chart.state(given[0], given[1])
    if call == BEGINS:
        return chart.begins(given[0], given[1])
    if call == WAY:
        return chart.way(given[0], given[1], given[2])
    if call == GUARD:
        return chart.guard(given[0], given[1], given[2], given[3])
    if call == ACT:
        return chart.act(given[0], given[1], given[2], given[3])
    # What is left is on, 6.
    return chart.on(given[0], given[1], given[2], given[3], given[4])


def start(chart):
    """What start answers where nothing runs."""
    if not chart.may_start():
        return WRONG
    chart.run = Run(chart)
    return chart.run.start()


def ask(run, call, given):
    """The numbers that a call on a chart answers that runs."""
    if call == SEND:
        return [run.send(given[0])]
    if call == IN:
        return [run.is_in(given[0])]
    if call == NUMBER:
        return run.number(given[0])
    # What is left is take, 11.
    return run.take(given[0])


def answer(chart, call, given):
    """The numbers that one call answers."""
    if call == BEGIN:
        return [chart.begin()]
    # Ahead of all else that a call may be refused for: whether it is one for a chart that runs.
    if call > START:
        return [IDLE] if chart.run is None else ask(chart.run, call, given)
    if chart.run is not None:
        return [RUNNING]
    return [start(chart)] if call == START else [tell(chart, call, given)]


def answers(calls):
    """For each call, in order: how many numbers are answered, and these."""
    chart = Chart()
    told = []
    at = 0
    while at < len(calls):
        call = calls[at]
        behind = at + 1 + HANDED[call]
        numbers = answer(chart, call, calls[at + 1:behind])
        told.append(len(numbers))
        told.extend(numbers)
        at = behind
    return told
