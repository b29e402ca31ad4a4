"""The states of a gauge: 0 far below, 1 below, 2 fine, 3 above, 4 far above."""

from gaugeboard.doubles import made_double

STATES = 5
FINE = 2


def zone(value, limits):
    """Which of the states four numbers give a value; with a slack they need not be in order."""
    if value < limits[0]:
        return 0
    if value < limits[1]:
        return 1
    if value > limits[3]:
        return 4
    if value > limits[2]:
        return 3
    return 2


def raised_below(limits, slack):
    return [made_double(limits[0] + slack, 1), made_double(limits[1] + slack, 1), limits[2], limits[3]]


def lowered_above(limits, slack):
    return [limits[0], limits[1], made_double(limits[2] - slack, 1), made_double(limits[3] - slack, 1)]


def state_after(state, value, limits, slack):
    """The state that a reading of this value brings."""
    plain = zone(value, limits)
    if state == FINE:
        return plain
    if state < FINE:
        if plain < state:
            return plain
        return max(state, zone(value, raised_below(limits, slack)))
    if plain > state:
        return plain
    return min(state, zone(value, lowered_above(limits, slack)))
