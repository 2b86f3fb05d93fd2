"""Sequences whose members follow from those before them, and growing by turns."""

from sandreckoner.bare import bare_shift, bare_sum
from sandreckoner.errors import NotAllowed
from sandreckoner.forms import allowed
from sandreckoner.products import multiply
from sandreckoner.sums import add, negate
from sandreckoner.turns import check_times, state_behind

MAX_FACTORS = 3
NO_ROW = (0, 0, 0, 0)
# Rows that take a member of a sequence from the place behind it.
NEXT_ROWS = ((0, 1, 0, 0), (0, 0, 1, 0))


def padded(row, many):
    """A tuple of so many integers: those of a list, and zeros behind them."""
    return tuple(row + [0] * (many - len(row)))


def table_of_factors(factors):
    """The table that takes (f(i), f(i + 1), ..) to (f(i + 1), f(i + 2), ..)."""
    k = len(factors)
    rows = [*NEXT_ROWS[:k - 1], padded(factors[::-1], 4)]
    return tuple(rows + [NO_ROW] * (MAX_FACTORS - k))


def sequence_at(factors, first, place, m):
    """The member of a sequence at a place, where factors tell how a member follows from those before it."""
    if len(factors) != len(first) or len(factors) < 1 or len(factors) > MAX_FACTORS:
        raise NotAllowed("not from 1 to 3 factors, and as many first members")
    return state_behind(table_of_factors(factors), padded(first, MAX_FACTORS), place, m)[0]


def grown(double, x, c, times):
    """What x becomes behind so many turns, each of which doubles it, if that is asked for, and adds c."""
    check_times(times)
    if not double:
        return add(x, multiply(c, times))
    return allowed(bare_sum(bare_shift(bare_sum(x + c), times) + negate(c)))
