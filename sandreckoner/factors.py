"""Words of Higman's group as rows of factors, and handing them over."""

from sandreckoner.halves import Factor

OTHER_HALF = {"abc": "cda", "cda": "abc"}
ONE = ((1, ()),)
MINUS_ONE = ((-1, ()),)


class Factors:
    """The factors of a word, in turns of the one and of the other half."""

    def __init__(self, word):
        self.row = []
        for letter in word:
            half = "cda" if letter in "dD" else "abc"
            if not self.row or self.row[-1].half != half:
                self.row.append(Factor(half))
            self.row[-1].put_power(letter.lower(), ONE if letter.islower() else MINUS_ONE)

    def powers_at(self, place):
        """The powers of the factor at a place if it can be handed over, otherwise None."""
        if len(self.row) < 2 or place < 0 or place >= len(self.row):
            return None
        return self.row[place].powers()

    def hand_over(self, place, powers):
        """Hands over the factor at a place, which has these powers."""
        factor = self.row[place - 1] if place else Factor(OTHER_HALF[self.row[0].half])
        for letter, power in powers:
            factor.put_power(letter, power)
        for behind in self.row[place + 1:place + 2]:
            factor.put_all(behind)
        self.row[max(place - 1, 0):place + 2] = [factor]

    def reduce(self):
        """Hands over factors as long as that can be done, the least place first: the list of places and powers."""
        steps = []
        place = 0
        while place < len(self.row):
            powers = self.powers_at(place)
            if powers is None:
                place += 1
            else:
                self.hand_over(place, powers)
                steps.append((place, powers))
                # The factors ahead of the one that has come about are as they were.
                place = max(place - 1, 0)
        return steps

    def end(self):
        """How many factors are left, or 0 if it is one in the free group; and its powers, otherwise no powers."""
        if len(self.row) > 1:
            return len(self.row), []
        powers = self.row[0].powers() if self.row else []
        return (1, []) if powers is None else (0, powers)
