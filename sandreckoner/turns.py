"""Turns: tables that take one state to the next, turned as often as a number says."""

from sandreckoner.errors import NotAllowed
from sandreckoner.forms import sign_of
from sandreckoner.remainders import remainder
from sandreckoner.small import value_within

MAX_TURN_MODULUS = 12
CORNERS = ((1, 0, 0), (0, 1, 0), (0, 0, 1))


def check_turn_modulus(m):
    if m < 1 or m > MAX_TURN_MODULUS:
        raise NotAllowed("the modulus is out of range")


def check_times(times):
    if sign_of(times) < 0:
        raise NotAllowed("the number of turns is negative")


def turned(table, state, m):
    """The state behind one turn."""
    a, b, c = state
    return tuple([(row[0] * a + row[1] * b + row[2] * c + row[3]) % m for row in table])


def states_from(table, start, m):
    """The list of the different states from the first one on, and the index of that which follows the last."""
    states = []
    places = {}
    state = tuple([part % m for part in start])
    while state not in places:
        places[state] = len(states)
        states.append(state)
        state = turned(table, state, m)
    return states, places[state]


def index_behind(times, lead, many):
    """The index of the state behind so many turns, where state many is state lead again."""
    value = value_within(times, many.bit_length())
    if value is not None and value < many:
        return value
    period = many - lead
    return lead + (remainder(times, period) - lead) % period


def cycle_of(table, start, m):
    """A tuple of the least lead and the least period of the states from a start on."""
    check_turn_modulus(m)
    states, lead = states_from(table, start, m)
    return lead, len(states) - lead


def state_behind(table, start, times, m):
    """The state behind so many turns."""
    check_turn_modulus(m)
    check_times(times)
    states, lead = states_from(table, start, m)
    return states[index_behind(times, lead, len(states))]


def joined_row(row, first, m):
    """The row of a turn with a table and then one with the given row."""
    sums = [sum([row[at] * first[at][column] for at in range(3)]) for column in range(4)]
    return sums[0] % m, sums[1] % m, sums[2] % m, (sums[3] + row[3]) % m


def joined(first, second, m):
    """The table of one turn that does what a turn with the first table and then one with the second do."""
    check_turn_modulus(m)
    return tuple([joined_row(row, first, m) for row in second])


def table_behind(table, times, m):
    """The table of one turn that does what so many turns do."""
    # What the turns do to 0 is the last column; what they do to the corners differs from that by the other ones.
    last = state_behind(table, (0, 0, 0), times, m)
    ends = [state_behind(table, corner, times, m) for corner in CORNERS]
    return tuple([
        ((ends[0][at] - own) % m, (ends[1][at] - own) % m, (ends[2][at] - own) % m, own)
        for at, own in enumerate(last)
    ])
