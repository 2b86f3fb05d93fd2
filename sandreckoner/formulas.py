"""Formulas, read as trees."""

from sandreckoner.errors import BadForm
from sandreckoner.tokens import DIGITS, SMALL_LETTERS, run_of, tokens

MAX_LEVELS = 30
MAX_FIGURES = 18
MAX_NAME = 4
FUNCTIONS = {"rem": 2, "bit": 2, "len": 1, "low": 1, "abs": 1, "min": 2, "max": 2, "tower": 1}
KEYWORDS = ("if", "else", "turn", "show")
SUMS = {"+": "add", "-": "sub"}
PRODUCTS = {"*": "mul", "<<": "up", ">>": "down"}
SIGNS = {"-": "neg", "2^": "pow"}
OPERATIONS = ("add", "sub", "mul", "up", "down")


def is_name(word):
    """Whether a text is a name."""
    if word in FUNCTIONS or word in KEYWORDS:
        return False
    return 1 <= len(word) <= MAX_NAME and run_of(SMALL_LETTERS, word, 0) == word


def is_integer(word):
    """Whether a text is an integer as formulas have it."""
    if word[:1] == "0" and word != "0":
        return False
    return 1 <= len(word) <= MAX_FIGURES and run_of(DIGITS, word, 0) == word


def deeper(level):
    """The number of levels within one more."""
    if level == MAX_LEVELS:
        raise BadForm("too many levels")
    return level + 1


class Reader:
    """The tokens of a text, and how far they are read.

    What is called level is the number of levels around that which is read.
    """

    def __init__(self, text):
        self.parts = tokens(text)
        self.at = 0

    def ahead(self):
        """The next token, or the empty text behind the last one."""
        return self.parts[self.at] if self.at < len(self.parts) else ""

    def take(self):
        """The next token, which counts as read from now on."""
        token = self.ahead()
        self.at += 1
        return token

    def skip(self, token):
        """Reads the next token if it is this one; tells whether it is."""
        found = self.ahead() == token
        if found:
            self.at += 1
        return found

    def demand(self, token):
        if not self.skip(token):
            raise BadForm("a mark is missing")

    def check_end(self):
        if self.ahead() != "":
            raise BadForm("something stands behind the end")

    def read_sum(self, level):
        """The tree of the sum that comes next."""
        tree = self.read_product(level)
        while self.ahead() in SUMS:
            kind = SUMS[self.take()]
            tree = (kind, tree, self.read_product(level))
        return tree

    def read_product(self, level):
        tree = self.read_sign(level)
        while self.ahead() in PRODUCTS:
            kind = PRODUCTS[self.take()]
            tree = (kind, tree, self.read_sign(level))
        return tree

    def read_sign(self, level):
        if self.ahead() in SIGNS:
            kind = SIGNS[self.take()]
            return (kind, self.read_sign(deeper(level)))
        return self.read_part(level)

    def read_part(self, level):
        token = self.take()
        if token == "(":
            tree = self.read_sum(deeper(level))
            self.demand(")")
            return tree
        if token in FUNCTIONS:
            return ("call", token, self.read_args(deeper(level), FUNCTIONS[token]))
        if is_name(token):
            return ("name", token)
        if is_integer(token):
            return ("int", int(token))
        raise BadForm("a part of a formula is missing")

    def read_args(self, level, many):
        """The tuple of the trees of so many arguments, which stand in parentheses."""
        self.demand("(")
        args = [self.read_sum(level)]
        while len(args) < many:
            self.demand(",")
            args.append(self.read_sum(level))
        self.demand(")")
        return tuple(args)


def read_formula(text):
    """The tree of a formula."""
    reader = Reader(text)
    tree = reader.read_sum(0)
    reader.check_end()
    return tree


def unrolled(tree):
    """The leftmost operand of a tree, and the list of the operations on it, which are pairs (kind, right operand).

    What is grouped from the left is as deep as the text is long, too deep for recursion; all else
    is as deep as there are levels.
    """
    steps = []
    while tree[0] in OPERATIONS:
        steps.append((tree[0], tree[2]))
        tree = tree[1]
    return tree, steps[::-1]


def trees_in(tree):
    """The trees that stand directly in a tree."""
    if tree[0] in ("int", "name"):
        return ()
    return tree[2] if tree[0] == "call" else tree[1:]


def names_of(tree):
    """The list of the names in a tree, each once, in ascending order."""
    found = set()
    trees = [tree]
    while trees:
        part = trees.pop()
        if part[0] == "name":
            found.add(part[1])
        trees.extend(trees_in(part))
    return sorted(found)
