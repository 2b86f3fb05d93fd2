"""Words of Baumslag's group as rows of outer letters, and their pinches."""

from sandreckoner.affine import adding, as_adding, as_doubling, bare_product, doubling
from sandreckoner.small import bare_number


class Row:
    """The outer letters of a word, and the plain elements before, between and behind them."""

    def __init__(self, word):
        self.outer = [letter for letter in word if letter in "bB"]
        stretches = word.replace("B", "b").split("b")
        self.between = [adding(bare_number(part.count("a") - part.count("A"))) for part in stretches]

    def power_at(self, place):
        """The power of the pinch at a place, or None if there is no pinch."""
        if place < 0 or place + 1 >= len(self.outer):
            return None
        pair = self.outer[place] + self.outer[place + 1]
        if pair == "bB":
            return as_adding(self.between[place + 1])
        if pair == "Bb":
            return as_doubling(self.between[place + 1])
        return None

    def make_pinch(self, place, power):
        """Makes the pinch at a place, which has this power."""
        worth = doubling(power) if self.outer[place] == "b" else adding(power)
        before = bare_product(self.between[place], worth)
        self.between[place:place + 3] = [bare_product(before, self.between[place + 2])]
        del self.outer[place:place + 2]

    def reduce(self):
        """Makes pinches as long as there is one, the least place first: the list of their places and powers."""
        steps = []
        place = 0
        while place < len(self.outer):
            power = self.power_at(place)
            if power is None:
                place += 1
            else:
                self.make_pinch(place, power)
                steps.append((place, power))
                # Only the outer letter ahead of the two that are gone has another one behind it now.
                place = max(place - 1, 0)
        return steps

    def end(self):
        """How many outer letters are left, and the element that is left, or None if there are such letters."""
        return len(self.outer), None if self.outer else self.between[0]
