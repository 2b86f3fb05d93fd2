"""A second sheet, written from part 7: a dict of trees, in which each value is calculated anew."""

import grammar
import reckon
from sandreckoner import errors

NAMES = list("abcdefghijk") + ["xy", "xyz", "long"]
PARTS = [
    "{x}", "{x} + {y}", "{x} - {y}", "{x} * {y}", "2^{x}", "-{x}", "{x} << {y}", "{x} >> {y}", "rem({x}, {y})",
    "low({x})", "len({x})", "abs({x})", "min({x}, {y})", "max({x}, {y})", "bit({x}, {y})", "tower({x})",
    "({x} + {y}) * {x}", "{x} - ({y} - {x})", "2^{x} + {y}", "{x} + {x} + {y}", "2^2^{x} - 2^{y}",
]


def random_text(rng, names=NAMES):
    """A formula over names and small integers, in one of many spellings."""
    choices = list(names) + [str(rng.randrange(12)) for _ in range(5)]
    inner = rng.choice(PARTS).format(x=rng.choice(choices), y=rng.randrange(9))
    words = {mark: rng.choice(choices + [f"({inner})"]) for mark in "xy"}
    text = rng.choice(PARTS).format(**words)
    return grammar.spaced(rng, grammar.loose_parts(rng, grammar.formula(text), more=rng.choice((0, 0.1))))


def text_for(rng, name):
    """A formula for a cell: mostly over names ahead of its own, so that there are few rings."""
    return random_text(rng, NAMES if name not in NAMES or rng.randrange(12) == 0 else NAMES[:NAMES.index(name)])


def names_in(tree):
    if tree[0] == "name":
        return {tree[1]}
    parts = tree[2] if tree[0] == "call" else tree[1:]
    return set().union(*[names_in(part) for part in parts if isinstance(part, tuple)])


class Values:
    """The values of the cells as they are asked for, for what looks names up as in a dict."""

    def __init__(self, paper, function):
        self.paper, self.function = paper, function

    def __contains__(self, name):
        return name in self.paper.trees

    def __getitem__(self, name):
        return self.function(self.paper.trees[name], self)


class Paper:
    def __init__(self):
        self.trees = {}
        self.renewed = []

    def needs(self, tree):
        """All names that a formula depends on."""
        found, more = set(), names_in(tree)
        while more:
            found |= more
            more = set().union(*[names_in(self.trees[name]) for name in more if name in self.trees]) - found
        return found

    def above(self, name):
        return [other for other, tree in self.trees.items() if name in self.needs(tree)]

    def put(self, name, text):
        """None, or the name of the error of set_cell."""
        if not grammar.is_name(name):
            return "NotAllowed"
        tree = grammar.formula(text)
        if tree is None:
            return "BadForm"
        if name in self.needs(tree):
            return "Ring"
        if name not in self.trees and len(self.trees) == 12:
            return "TooLarge"
        same = self.trees.get(name) == tree
        self.trees[name] = tree
        self.renewed = [] if same else sorted([name] + self.above(name))
        return None

    def drop(self, name):
        if name not in self.trees:
            return "Missing"
        del self.trees[name]
        self.renewed = sorted(self.above(name))
        return None

    def outcome(self, tree, function=reckon.value):
        """The value of a tree, or the name of its error."""
        try:
            return function(tree, Values(self, function))
        except errors.ReckonError as error:
            return type(error).__name__

    def image(self, text):
        return "".join(f"{name}={text(self.trees[name])};" for name in sorted(self.trees))
