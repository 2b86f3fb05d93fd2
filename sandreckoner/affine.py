"""Elements (u, v, m), which take z to 2 ** m * z + u * 2 ** v, without the bounds of allowed numbers."""

from sandreckoner.bare import bare_shift, order, plus
from sandreckoner.forms import sign_of
from sandreckoner.sums import negate


def bare_plain(element):
    """The plain form of an element."""
    u, v, m = element
    if not u:
        return ((), (), m)
    zeros = u[-1][1]
    return (bare_shift(u, negate(zeros)), plus(v, zeros), m) if zeros else element


def sum_of_two(u, v, x, y):
    """A pair (w, place) of which w * 2 ** place is u * 2 ** v + x * 2 ** y."""
    if not u:
        return x, y
    if not x:
        return u, v
    if order(v, y) > 0:
        return sum_of_two(x, y, u, v)
    return plus(u, bare_shift(x, plus(y, negate(v)))), v


def bare_product(first, second):
    """The plain form of what takes z to first(second(z))."""
    u, v, m = first
    x, y, n = second
    w, place = sum_of_two(u, v, x, plus(y, m))
    return bare_plain((w, place, plus(m, n)))


def bare_inverse(element):
    """The plain form of the inverse."""
    u, v, m = element
    return bare_plain((negate(u), plus(v, negate(m)), negate(m)))


def adding(k):
    """The plain element that takes z to z + k."""
    return bare_plain((k, (), ()))


def doubling(k):
    """The plain element that takes z to 2 ** k * z."""
    return ((), (), k)


def whole(u, v):
    """The number u * 2 ** v for a u that is odd or 0, or None if that is not whole."""
    return None if u and sign_of(v) < 0 else bare_shift(u, v)


def as_adding(element):
    """The k for which a plain element takes z to z + k, or None if there is none."""
    u, v, m = element
    return None if m else whole(u, v)


def as_doubling(element):
    """The k for which a plain element takes z to 2 ** k * z, or None if there is none."""
    return None if element[0] else element[2]
