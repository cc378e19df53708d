"""Sets of states, each kept as one whole number: its bit at a state's place is 1 if it has that state."""


def mark(state):
    """The set of one state."""
    return 1 << state


def marks_of(states):
    """The set of the states of a list."""
    found = 0
    for state in states:
        found |= mark(state)
    return found


def marked(found):
    """The states of a set, the least number first."""
    states = []
    rest = found
    while rest != 0:
        least = rest & -rest
        states.append(least.bit_length() - 1)
        rest -= least
    return states
