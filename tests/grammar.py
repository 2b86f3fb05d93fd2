"""A second reader of formulas and programs, written from the grammars of [3.2] and [3.6], and random texts.

It cuts a text at its last operation, where the package reads from the left to the right.
"""

import re

TOKEN = re.compile(r" *((?<![0-9])2\^|[0-9]+|[A-Za-z]+|<<|>>|<=|==|!=|[-+*(),=;{}<])")
ARGUMENTS = {"rem": 2, "bit": 2, "len": 1, "low": 1, "abs": 1, "min": 2, "max": 2, "tower": 1}
WORDS = ["if", "else", "turn", "show"]
NAME = re.compile(r"[a-z]{1,4}")
INTEGER = re.compile(r"0|[1-9][0-9]{0,17}")
SUMS = {"+": "add", "-": "sub"}
PRODUCTS = {"*": "mul", "<<": "up", ">>": "down"}
MARK = {"add": "+", "sub": "-", "mul": "*", "up": "<<", "down": ">>"}
TESTS = ["<", "<=", "==", "!="]
RANKS = {"add": 1, "sub": 1, "mul": 2, "up": 2, "down": 2}
NAMES = ["a", "b", "x", "ab", "xyz", "i", "lens", "remo", "mi", "zzzz"]


class Wrong(Exception):
    pass


def cut(text):
    """The tokens of a text."""
    if len(text) > 1000:
        raise Wrong
    found, at = [], 0
    text = text.rstrip(" ")
    while at < len(text):
        match = TOKEN.match(text, at)
        if not match:
            raise Wrong
        found.append(match.group(1))
        at = match.end()
    return found


def is_name(word):
    return NAME.fullmatch(word) is not None and word not in ARGUMENTS and word not in WORDS


def ends_operand(token):
    return token[-1].isalnum() or token == ")"


def depths(parts):
    """For each token how many parentheses are open in front of it."""
    found, depth = [], 0
    for part in parts:
        found.append(depth)
        depth += (part == "(") - (part == ")")
        if depth < 0:
            raise Wrong
    if depth:
        raise Wrong
    return found


def last_of(parts, table):
    """The index of the last operation of a table outside of parentheses, or None."""
    open_ones = depths(parts)
    for at in range(len(parts) - 1, 0, -1):
        if parts[at] in table and open_ones[at] == 0 and ends_operand(parts[at - 1]):
            return at
    return None


def tree(parts, level=0):
    if level > 30 or not parts:
        raise Wrong
    for table in (SUMS, PRODUCTS):
        at = last_of(parts, table)
        if at is not None:
            return (table[parts[at]], tree(parts[:at], level), tree(parts[at + 1:], level))
    if parts[0] in ("-", "2^"):
        return ("neg" if parts[0] == "-" else "pow", tree(parts[1:], level + 1))
    return part(parts, level)


def part(parts, level):
    first, inner = parts[0], parts[1:]
    if len(parts) == 1:
        if INTEGER.fullmatch(first):
            return ("int", int(first))
        if is_name(first):
            return ("name", first)
        raise Wrong
    if first == "(" and parts[-1] == ")" and 0 not in depths(parts)[1:]:
        return tree(inner[:-1], level + 1)
    if first in ARGUMENTS and inner[0] == "(" and inner[-1] == ")" and 0 not in depths(inner)[1:]:
        args = [tree(arg, level + 1) for arg in divided(inner[1:-1], ",")]
        if len(args) == ARGUMENTS[first]:
            return ("call", first, tuple(args))
    raise Wrong


def divided(parts, mark):
    """The tokens between the marks outside of parentheses."""
    rows = [[]]
    for token, depth in zip(parts, depths(parts)):
        if token == mark and depth == 0:
            rows.append([])
        else:
            rows[-1].append(token)
    return rows


def formula(text):
    """The tree of a formula, or None."""
    try:
        return tree(cut(text))
    except Wrong:
        return None


def index_of(parts, token):
    if token not in parts:
        raise Wrong
    return parts.index(token)


def behind_block(parts, at):
    """The index behind the block that begins at an index."""
    depth = 0
    for index in range(at, len(parts)):
        depth += (parts[index] == "{") - (parts[index] == "}")
        if depth == 0:
            return index + 1
    raise Wrong


def behind_statement(parts):
    if parts[0] not in ("turn", "if"):
        return index_of(parts, ";") + 1
    end = behind_block(parts, index_of(parts, "{"))
    if parts[0] == "if" and parts[end:end + 1] == ["else"]:
        if parts[end + 1:end + 2] != ["{"]:
            raise Wrong
        return behind_block(parts, end + 1)
    return end


def statements(parts, level=0):
    """The list of the statements of tokens."""
    if level > 30:
        raise Wrong
    found = []
    while parts:
        end = behind_statement(parts)
        found.append(statement(parts[:end], level))
        parts = parts[end:]
    return found


def statement(parts, level):
    if parts[0] in ("turn", "if"):
        brace = parts.index("{")
        end = behind_block(parts, brace)
        block = statements(parts[brace + 1:end - 1], level + 1)
        if parts[0] == "turn":
            return ("turn", tree(parts[1:brace], level), block)
        marks = [at for at in range(1, brace) if parts[at] in TESTS]
        if len(marks) != 1:
            raise Wrong
        left, right = tree(parts[1:marks[0]], level), tree(parts[marks[0] + 1:brace], level)
        return ("if", parts[marks[0]], left, right, block, statements(parts[end + 2:-1], level + 1))
    if parts[0] == "show":
        return ("show", tree(parts[1:-1], level))
    if not is_name(parts[0]) or parts[1] != "=":
        raise Wrong
    return ("let", parts[0], tree(parts[2:-1], level))


def program(text):
    """The list of the statements of a program, or None."""
    try:
        return statements(cut(text))
    except Wrong:
        return None


def random_tree(rng, depth):
    """A random tree with at most so many operations within one another."""
    kind = rng.choice(["int", "name"] + ["add", "sub", "mul", "up", "down", "neg", "pow", "call"] * (depth > 0))
    if kind == "int":
        return ("int", rng.choice([0, 1, 2, 22, 10 ** 18 - 1, rng.randrange(100)]))
    if kind == "name":
        return ("name", rng.choice(NAMES))
    if kind == "call":
        name = rng.choice(list(ARGUMENTS))
        return ("call", name, tuple(random_tree(rng, depth - 1) for _ in range(ARGUMENTS[name])))
    return (kind,) + tuple(random_tree(rng, depth - 1) for _ in range(2 if kind in MARK else 1))


def loose_parts(rng, tree, rank=1, more=0.2):
    """Tokens that are read as the tree, with some parentheses that are not needed."""
    kind = tree[0]
    own = RANKS.get(kind, 3)
    if kind in MARK:
        left, right = loose_parts(rng, tree[1], own, more), loose_parts(rng, tree[2], own + 1, more)
        found = left + [MARK[kind]] + right
    elif kind == "neg":
        found = ["-"] + loose_parts(rng, tree[1], 3, more)
    elif kind == "pow":
        found = ["2^"] + loose_parts(rng, tree[1], 3, more)
    elif kind == "call":
        found = [tree[1], "("]
        for arg in tree[2]:
            found += loose_parts(rng, arg, 1, more) + [","]
        found[-1] = ")"
    else:
        found = [str(tree[1])]
    while own < rank or rng.random() < more:
        found, own = ["("] + found + [")"], 3
    return found


def spaced(rng, parts):
    """A text of tokens with none, one or more spaces between them and at both ends."""
    text = " " * rng.choice((0, 0, 1, 3))
    for at, token in enumerate(parts):
        text += token + " " * rng.choice((0, 0, 1, 1, 2, 5))
        both = token + "".join(parts[at + 1:at + 2])
        if not text.endswith(" ") and cut_or_nothing(both) != [token] + parts[at + 1:at + 2]:
            text += " "
    return text


def cut_or_nothing(text):
    try:
        return cut(text)
    except Wrong:
        return None
