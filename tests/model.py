"""A second, slow model of numbers, written from the document and apart from the package.

Numbers are the nested tuples of the document. The model adds by rewriting one term at a time,
compares by the words of [1.4], and reads texts by the grammar of [1.6].
"""

from functools import cmp_to_key, lru_cache


def places_of(value):
    """The places of an integer's terms as pairs (sign, place), the greatest place first."""
    value, turn = abs(value), -1 if value < 0 else 1
    triple = 3 * value
    found = []
    # The digits of 3 * value and value differ where value has a term, one place above it.
    for place in range(triple.bit_length()):
        upper, lower = triple >> place + 1 & 1, value >> place + 1 & 1
        if upper != lower:
            found.append((turn * (upper - lower), place))
    return found[::-1]


def number(value):
    return tuple((sign, number(place)) for sign, place in places_of(value))


def value_of(x):
    """The integer for a number; for numbers that are small enough."""
    return sum(sign * 2 ** value_of(exponent) for sign, exponent in x)


def size(x):
    return 1 + sum(size(exponent) for _, exponent in x)


def height(x):
    return 1 + max(height(exponent) for _, exponent in x) if x else 0


def opposite(x):
    return tuple((-sign, exponent) for sign, exponent in x)


@lru_cache(maxsize=None)
def order(first, second):
    """The order of two numbers by the words of [1.4]."""
    for at in range(max(len(first), len(second))):
        if first[at:at + 1] == second[at:at + 1]:
            continue
        if at == len(second):
            return first[at][0]
        if at == len(first):
            return -second[at][0]
        (sign, exponent), (other, place) = first[at], second[at]
        if sign != other:
            return 1 if sign > other else -1
        return sign * order(exponent, place)
    return 0


def put_term(table, sign, exponent):
    """Adds a term to a dict of terms by rules for equal and neighbouring exponents, one step at a time."""
    todo = [(sign, exponent)]
    while todo:
        sign, exponent = todo.pop()
        above = following(exponent)
        below = preceding(exponent) if exponent else None
        if exponent in table:
            if table.pop(exponent) == sign:
                todo.append((sign, above))
        elif above in table:
            if table.pop(above) == sign:
                todo += [(-sign, exponent), (sign, following(above))]
            else:
                todo.append((-sign, exponent))
        elif below in table:
            if table.pop(below) == sign:
                todo += [(-sign, below), (sign, above)]
            else:
                todo.append((sign, below))
        else:
            table[exponent] = sign


def total(terms):
    """The sum of s * 2 ** e over pairs (s, e)."""
    table = {}
    for sign, exponent in terms:
        put_term(table, sign, exponent)
    exponents = sorted(table, key=cmp_to_key(order), reverse=True)
    return tuple((table[exponent], exponent) for exponent in exponents)


def plus(first, second):
    return total(first + second)


@lru_cache(maxsize=None)
def following(x):
    return next_to(x, 1)


@lru_cache(maxsize=None)
def preceding(x):
    return next_to(x, -1)


def next_to(x, step):
    # The small ones are known; adding to the great ones asks for nothing but neighbours of smaller numbers.
    if order(x, number(1000)) < 0:
        return number(value_of(x) + step)
    return plus(x, number(step))


def times(first, second):
    return total([(s * t, plus(e, f)) for s, e in first for t, f in second])


def has_form(x):
    """Whether a tuple is a number, whatever its size."""
    for sign, exponent in x:
        if sign not in (1, -1) or not has_form(exponent) or order(exponent, ()) < 0:
            return False
    return all(order(following(lower), upper) < 0 for (_, upper), (_, lower) in zip(x, x[1:]))


def is_allowed(x):
    """Whether a tuple is an allowed number."""
    return height(x) <= 40 and size(x) <= 300 and has_form(x)


def parsed(text):
    """The tuple for a text by the grammar of [1.6], or None."""
    x, at = parsed_at(text, 0)
    return x if at == len(text) else None


def parsed_at(text, at):
    if text[at:at + 1] == "0":
        return (), at + 1
    terms = []
    while text[at:at + 2] in ("+[", "-["):
        sign = 1 if text[at] == "+" else -1
        exponent, at = parsed_at(text, at + 2)
        if exponent is None or text[at:at + 1] != "]":
            return None, at
        terms.append((sign, exponent))
        at += 1
    return (tuple(terms) if terms else None), at


def totient(m):
    found, factor = m, 2
    while factor <= m:
        if m % factor == 0:
            found -= found // factor
            while m % factor == 0:
                m //= factor
        factor += 1
    return found


def remainder(x, m):
    return sum(sign * power_remainder(exponent, m) for sign, exponent in x) % m


@lru_cache(maxsize=None)
def power_remainder(exponent, m):
    """The remainder of 2 ** exponent by m, by Euler's rule for exponents that are great enough."""
    if m == 1:
        return 0
    if order(exponent, number(40)) < 0:
        return 2 ** value_of(exponent) % m
    turn = totient(m)
    return pow(2, remainder(exponent, turn) + turn * (40 // turn + 1), m)


def power(x):
    return ((1, x),)


def raised(x, storeys):
    """2 ** 2 ** .. ** x with so many twos."""
    for _ in range(storeys):
        x = power(x)
    return x


def of_size(wanted):
    """A number of a size above 40, with positive terms and no exponent below 200."""
    x = ()
    left = wanted - 1
    place = 2 ** 200
    while left > 40:
        x += ((1, number(place)),)
        left -= size(number(place))
        place //= 4
    for place in range(1000, 200, -1):
        for ending in (number(2 ** place), number(2 ** place + 2 ** 200)):
            if size(ending) == left + 1:
                return x + ending
    raise AssertionError("no number of this size")


# Exponents that are far from each other and from 0, the least first.
FAR = [
    number(2 ** 70),
    power(number(2 ** 20)),
    power(plus(power(number(100)), number(-1))),
    power(power(number(100))),
    plus(power(plus(power(number(100)), number(3))), power(number(100))),
    power(power(power(number(100)))),
]


def random_exponent(rng):
    """An exponent that is small, or near one of those that are far from each other, or near half of it."""
    kind = rng.randrange(4)
    if kind == 0:
        return number(rng.randrange(30))
    base = rng.choice(FAR)
    if kind == 1:
        return plus(base, number(rng.randrange(-8, 9)))
    if kind == 2:
        return plus(base, rng.choice(FAR))
    return plus(plus(base, base), number(rng.randrange(-3, 4)))


def random_terms(rng, many):
    return [(rng.choice((1, -1)), random_exponent(rng)) for _ in range(many)]


def random_number(rng, many):
    """A random allowed number of at most so many terms."""
    x = total(random_terms(rng, rng.randrange(many + 1)))
    while size(x) > 300:
        x = x[1:]
    return x


def random_integer(rng):
    """A random integer: small, dense or sparse, of either sign."""
    kind = rng.randrange(3)
    if kind == 0:
        return rng.randrange(-40, 41)
    if kind == 1:
        return rng.choice((1, -1)) * rng.getrandbits(rng.randrange(1, 60))
    return sum(rng.choice((1, -1)) * 2 ** rng.randrange(200) for _ in range(rng.randrange(1, 12)))
