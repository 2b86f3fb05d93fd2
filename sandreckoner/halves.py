"""Elements of the halves of Higman's group."""

from sandreckoner.affine import adding, as_adding, as_doubling, bare_product, doubling, whole
from sandreckoner.bare import plus
from sandreckoner.sums import negate


def shared_power(side, element):
    """The k for which an element of the pair on a side is the power k of the shared letter, or None."""
    return as_doubling(element) if side else as_adding(element)


def shared_element(side, power):
    """The power of the shared letter as an element of the pair on a side."""
    return doubling(power) if side else adding(power)


class Factor:
    """An element of a half, which is told by its three letters, as a product of elements of the half's pairs.

    The row has pairs of a side and an element of the pair on this side: 0 is that of the first two
    letters, 1 that of the last two. The sides are in turns, and no element but the last one is a
    power of the letter that both pairs share.
    """

    def __init__(self, half):
        self.half = half
        self.row = []

    def put(self, side, element):
        """Multiplies by an element of the pair on a side."""
        while self.row:
            other, last = self.row[-1]
            if side != other:
                power = shared_power(other, last)
                if power is None:
                    break
                last = shared_element(side, power)
            self.row.pop()
            element = bare_product(last, element)
        self.row.append((side, element))

    def put_power(self, letter, power):
        """Multiplies by a power of a letter of the half."""
        at = self.half.index(letter)
        self.put(at // 2, adding(power) if at else doubling(power))

    def put_all(self, factor):
        """Multiplies by another element of the half."""
        for side, element in list(factor.row):
            self.put(side, element)

    def powers(self):
        """The list of the powers of the outer letters that the element is, or None if it is not in the free group."""
        found = []
        # What is before an element is a product of powers found so far and this power of the shared letter.
        carry = ()
        for side, element in self.row:
            if side:
                u, v, m = element
                power = whole(u, plus(v, carry))
                carry = plus(m, carry)
            else:
                u, v, power = bare_product(adding(carry), element)
                carry = whole(u, plus(v, negate(power)))
            if power is None or carry is None:
                return None
            # A power of the shared letter at the end is put to the carry, and has no power of its own.
            if power:
                found.append((self.half[2 * side], power))
        return None if carry else found
