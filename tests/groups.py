"""A second, slow way to reduce words of both groups, written from the document and apart from the package.

It works over any kind of elements: Exact has Python's integers and fractions, Tall has the numbers
of tests/model.py. Places may be picked in any order.
"""

from fractions import Fraction

import model

BAUM_RELATORS = ["baBabABAA"]
HIGMAN_RELATORS = ["abABB", "bcBCC", "cdCDD", "daDAA"]
# What the numbers of Exact may come to.
MOST_BITS = 5000


class TooTall(Exception):
    """A number is too great for Python's integers."""


class Exact:
    """Elements as pairs (m, q): z is taken to 2 ** m * z + q."""

    zero = 0

    def adding(self, k):
        return 0, Fraction(k)

    def doubling(self, k):
        return k, Fraction(0)

    def product(self, first, second):
        if abs(first[0]) > MOST_BITS:
            raise TooTall
        return first[0] + second[0], Fraction(2) ** first[0] * second[1] + first[1]

    def as_adding(self, element):
        m, q = element
        if q.numerator.bit_length() > MOST_BITS:
            raise TooTall
        return int(q) if m == 0 and q.denominator == 1 else None

    def as_doubling(self, element):
        return element[0] if element[1] == 0 else None

    def power_of_doubling(self, element):
        return element[0]

    def negative(self, k):
        return -k

    def number(self, k):
        """The number of the document for an integer."""
        return model.number(k)

    def plain(self, element):
        """The plain element of the document."""
        m, q = element
        u = q.numerator
        if u == 0:
            return (), (), model.number(m)
        zeros = (u & -u).bit_length() - 1
        place = zeros - (q.denominator.bit_length() - 1)
        return model.number(u >> zeros), model.number(place), model.number(m)


def shifted(x, places):
    return model.total([(sign, model.plus(exponent, places)) for sign, exponent in x])


def greatest(*numbers):
    found = numbers[0]
    for x in numbers[1:]:
        if model.order(found, x) < 0:
            found = x
    return found


class Tall:
    """Elements as triples (n, s, m) of numbers: z is taken to 2 ** m * z + n / 2 ** s. They are not cut down."""

    zero = ()

    def adding(self, k):
        return k, (), ()

    def doubling(self, k):
        return (), (), k

    def product(self, first, second):
        n, s, m = first
        p, t, l = second
        behind = model.plus(m, model.opposite(t))
        common = greatest((), s, model.opposite(behind))
        upper = shifted(n, model.plus(common, model.opposite(s)))
        lower = shifted(p, model.plus(common, behind))
        return model.plus(upper, lower), common, model.plus(m, l)

    def as_adding(self, element):
        n, s, m = element
        if m or n and model.order(n[-1][1], s) < 0:
            return None
        return shifted(n, model.opposite(s))

    def as_doubling(self, element):
        return None if element[0] else element[2]

    def power_of_doubling(self, element):
        return element[2]

    def negative(self, k):
        return model.opposite(k)

    def number(self, k):
        return k

    def plain(self, element):
        n, s, m = element
        if not n:
            return (), (), m
        zeros = n[-1][1]
        return shifted(n, model.opposite(zeros)), model.plus(zeros, model.opposite(s)), m


def one(kind, letter):
    """1 for a small letter, -1 for a capital one."""
    k = 1 if kind is not Tall else model.number(1)
    return k if letter.islower() else (-k if kind is not Tall else model.opposite(k))


def unit_steps(algebra, letter):
    return one(algebra.__class__, letter)


def pinch_power(algebra, row, place):
    """The power of a pinch; the row is g0, b1, g1, .., bn, gn."""
    left, element, right = row[2 * place + 1:2 * place + 4]
    if left + right == "bB":
        return algebra.as_adding(element)
    return algebra.as_doubling(element) if left + right == "Bb" else None


def baum_row(algebra, word):
    row = [algebra.adding(algebra.zero)]
    for letter in word:
        if letter in "bB":
            row += [letter, algebra.adding(algebra.zero)]
        else:
            row[-1] = algebra.product(row[-1], algebra.adding(unit_steps(algebra, letter)))
    return row


def reduce_baum(algebra, word, pick=min):
    """The steps, the number of outer letters left, and the plain element left, with the places that pick takes."""
    row = baum_row(algebra, word)
    steps = []
    while True:
        found = {place: pinch_power(algebra, row, place) for place in range((len(row) - 3) // 2)}
        places = [place for place in found if found[place] is not None]
        if not places:
            break
        place = pick(places)
        k = found[place]
        worth = algebra.doubling(k) if row[2 * place + 1] == "b" else algebra.adding(k)
        ahead, behind = row[2 * place], row[2 * place + 4]
        row[2 * place:2 * place + 5] = [algebra.product(algebra.product(ahead, worth), behind)]
        steps.append((place, algebra.number(k)))
    left = len(row) // 2
    return steps, left, None if left else algebra.plain(row[0])


def shared(algebra, side, element):
    return algebra.as_doubling(element) if side else algebra.as_adding(element)


def cut_down(algebra, row):
    """A product of pairs (side, element) in turns, with no power of the shared letter unless it is alone."""
    row = list(row)
    at = 0
    while at + 1 < len(row):
        (side, element), (other, behind) = row[at:at + 2]
        if side != other:
            k, l = shared(algebra, side, element), shared(algebra, other, behind)
            if k is not None:
                side, element = other, algebra.adding(k) if side else algebra.doubling(k)
            elif l is not None:
                other, behind = side, algebra.adding(l) if other else algebra.doubling(l)
        if side == other:
            row[at:at + 2] = [(side, algebra.product(element, behind))]
            at = 0
        else:
            at += 1
    return row


def powers_in(algebra, half, row):
    """The powers of an element of a half by the words of [6.5], or None."""
    found = []
    k = algebra.zero
    for side, element in row:
        if side:
            # b ** k times the element is c ** n times b ** (m + k).
            whole = algebra.product(algebra.doubling(k), element)
            k = algebra.power_of_doubling(whole)
            power = algebra.as_adding(algebra.product(whole, algebra.doubling(algebra.negative(k))))
        else:
            # b ** k times the element is a ** m times b ** (the next k).
            whole = algebra.product(algebra.adding(k), element)
            power = algebra.power_of_doubling(whole)
            k = algebra.as_adding(algebra.product(algebra.doubling(algebra.negative(power)), whole))
        if power is None or k is None:
            return None
        if power != algebra.zero:
            found.append((half[2 * side], power))
    return found if k == algebra.zero else None


def put_over(algebra, half, powers):
    row = []
    for letter, power in powers:
        row.append((0, algebra.doubling(power)) if letter == half[0] else (1, algebra.adding(power)))
    return row


def higman_factors(algebra, word):
    """The beginning of a word: pairs of a half and a product of elements of its pairs."""
    found = []
    for letter in word:
        half = "cda" if letter in "dD" else "abc"
        if not found or found[-1][0] != half:
            found.append((half, []))
        at = half.index(letter.lower())
        k = unit_steps(algebra, letter)
        found[-1][1].append((at // 2, algebra.adding(k) if at else algebra.doubling(k)))
    return [(half, cut_down(algebra, row)) for half, row in found]


def reduce_higman(algebra, word, pick=min):
    """The steps, the length, and the powers left, with the places that pick takes."""
    factors = higman_factors(algebra, word)
    steps = []
    while len(factors) > 1:
        found = {at: powers_in(algebra, *factor) for at, factor in enumerate(factors)}
        places = [place for place in found if found[place] is not None]
        if not places:
            break
        place = pick(places)
        half = "cda" if factors[place][0] == "abc" else "abc"
        row = put_over(algebra, half, found[place])
        begin, end = max(place - 1, 0), place + 2
        ahead = factors[begin][1] if place else []
        behind = factors[place + 1][1] if end <= len(factors) else []
        factors[begin:end] = [(half, cut_down(algebra, ahead + row + behind))]
        steps.append((place, told(algebra, found[place])))
    powers = powers_in(algebra, *factors[0]) if len(factors) == 1 else []
    if len(factors) > 1 or powers is None:
        return steps, len(factors), []
    return steps, 0, told(algebra, powers)


def told(algebra, powers):
    return [(letter, algebra.number(power)) for letter, power in powers]


def inverse(word):
    return "".join(letter.lower() if letter.isupper() else letter.upper() for letter in reversed(word))


def random_word(rng, letters, many):
    return "".join(rng.choice(letters + letters.upper()) for _ in range(many))


def turned(rng, word):
    """A word with its beginning put behind its end, or the inverse of this."""
    at = rng.randrange(len(word) + 1)
    word = word[at:] + word[:at]
    return word if rng.randrange(2) else inverse(word)


def put_in(rng, word, part):
    at = rng.randrange(len(word) + 1)
    return word[:at] + part + word[at:]


def grown(rng, word, relators, letters, most=40):
    """Another spelling of a word: relators and pairs of a letter and its inverse are put in anywhere."""
    for _ in range(rng.randrange(1, 25)):
        if rng.randrange(3):
            part = turned(rng, rng.choice(relators))
        else:
            letter = random_word(rng, letters, 1)
            part = letter + inverse(letter)
        if len(word) + len(part) <= most:
            word = put_in(rng, word, part)
    return word


def doubled(word):
    """A word over a and b for a ** (2 ** x), where the word is a ** x."""
    return "b" + word + "Bab" + inverse(word) + "B"


def spelled(rng, storeys, first):
    """Two words over a and b for a ** x, where x is 2 ** 2 ** .. ** first with so many twos."""
    found = ["a" * first, "a" * first]
    for _ in range(storeys):
        found = [doubled(word) for word in found]
    return [grown(rng, word, BAUM_RELATORS, "ab") for word in found]
