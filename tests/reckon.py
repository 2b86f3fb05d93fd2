"""Values of formulas and runs of programs over Python's integers, written from [3.4] and [3.7]."""

import model
from sandreckoner import errors

WORDS = {"NotAllowed": "refused", "BadRange": "range", "TooLarge": "large", "Missing": "missing", "NoSteps": "steps"}


class Skip(Exception):
    """Something comes up that is too great for Python's integers."""


def allowed(value):
    if value.bit_length() > 5000:
        raise Skip
    if not model.is_allowed(model.number(value)):
        raise errors.TooLarge
    return value


def shifted(a, b):
    if a == 0:
        return 0
    if b > 5000:
        raise Skip
    if b >= 0:
        return a << b
    if b < -10000 or a % 2 ** -b != 0:
        raise errors.BadRange
    return a >> -b


def down(a, b):
    if b < 0:
        raise errors.NotAllowed
    return a >> min(b, 100000)


def product(a, b):
    if len(model.places_of(a)) * len(model.places_of(b)) > 400:
        raise errors.TooLarge
    return a * b


def remainder(a, m):
    if m < 1 or m > 10000:
        raise errors.NotAllowed
    return a % m


def lowest(a):
    if a == 0:
        raise errors.Missing
    return (a & -a).bit_length() - 1


def tower(n):
    if n < 0 or n > 40:
        raise errors.NotAllowed
    if n > 4:
        raise Skip
    return [1, 2, 4, 16, 65536][n]


OPERATIONS = {
    "add": lambda a, b: a + b,
    "sub": lambda a, b: a - b,
    "mul": product,
    "up": shifted,
    "down": down,
    "neg": lambda a: -a,
    "pow": lambda a: shifted(1, a),
    "rem": remainder,
    "bit": lambda a, b: down(a, b) & 1,
    "len": lambda a: abs(a).bit_length(),
    "low": lowest,
    "abs": abs,
    "min": min,
    "max": max,
    "tower": tower,
}


def value(tree, names):
    """The value of a tree, an integer, where names have the integers of a dict."""
    if tree[0] == "int":
        return allowed(tree[1])
    if tree[0] == "name":
        if tree[1] not in names:
            raise errors.Missing
        return names[tree[1]]
    kind, parts = (tree[1], tree[2]) if tree[0] == "call" else (tree[0], tree[1:])
    return allowed(OPERATIONS[kind](*[value(part, names) for part in parts]))


class Run:
    """A run of a program that grammar.py has read."""

    def __init__(self, text):
        self.text, self.shown, self.names, self.steps = text, [], {}, 0

    def step(self):
        if self.steps == 2000:
            raise errors.NoSteps
        self.steps += 1

    def block(self, statements):
        for statement in statements:
            self.step()
            getattr(self, "do_" + statement[0])(*statement[1:])

    def do_let(self, name, tree):
        self.names[name] = value(tree, self.names)

    def do_show(self, tree):
        self.shown.append(self.text(value(tree, self.names)))

    def do_turn(self, tree, block):
        many = value(tree, self.names)
        if many < 0:
            raise errors.NotAllowed
        while many > 0 and block:
            self.step()
            self.block(block)
            many -= 1

    def do_if(self, mark, left, right, block, other):
        a = value(left, self.names)
        b = value(right, self.names)
        self.block(block if {"<": a < b, "<=": a <= b, "==": a == b, "!=": a != b}[mark] else other)


def result(statements, text):
    """What run_program should return for a program that is read, where text tells the text of an integer."""
    run = Run(text)
    try:
        run.block(statements)
    except errors.ReckonError as error:
        return run.shown, WORDS[type(error).__name__], run.steps
    return run.shown, "ok", run.steps
