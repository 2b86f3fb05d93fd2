"""Programs: texts whose statements calculate with numbers and show them."""

from sandreckoner.errors import BadForm, BadRange, Missing, NoSteps, NotAllowed, TooLarge
from sandreckoner.evaluate import value_of
from sandreckoner.forms import compare, sign_of
from sandreckoner.formulas import Reader, deeper, is_name, read_sum
from sandreckoner.plain import shown_text
from sandreckoner.small import value_within

MAX_STEPS = 2000
TESTS = ("<", "<=", "==", "!=")


class Run:
    """What a program has shown so far, the values of its names, and the number of its steps."""

    def __init__(self):
        self.shown = []
        self.known = {}
        self.steps = 0

    def begin_step(self):
        if self.steps == MAX_STEPS:
            raise NoSteps("no steps are left")
        self.steps += 1

    def value(self, tree):
        return value_of(tree, self.known)


def read_program(text):
    """The list of the statements of a program."""
    reader = Reader(text)
    block = read_statements(reader, 0)
    reader.check_end()
    return block


def read_statements(reader, level):
    """The list of the statements up to the end of a block or of the text, within so many levels."""
    block = []
    while reader.ahead() not in ("", "}"):
        block.append(read_statement(reader, level))
    return block


def read_statement(reader, level):
    """The next statement, a tuple of its kind and its parts."""
    token = reader.take()
    if token == "if":
        test = read_test(reader, level)
        block = read_block(reader, level)
        other = read_block(reader, level) if reader.skip("else") else []
        return ("if", test, block, other)
    if token == "turn":
        tree = read_sum(reader, level)
        return ("turn", tree, read_block(reader, level))
    if token == "show":
        return ("show", read_last_sum(reader, level))
    if not is_name(token):
        raise BadForm("a statement begins with something else")
    reader.demand("=")
    return ("let", token, read_last_sum(reader, level))


def read_last_sum(reader, level):
    """The tree of the sum at the end of a statement."""
    tree = read_sum(reader, level)
    reader.demand(";")
    return tree


def read_block(reader, level):
    """The list of the statements of a block."""
    reader.demand("{")
    block = read_statements(reader, deeper(level))
    reader.demand("}")
    return block


def read_test(reader, level):
    """A tuple of the left tree, the mark and the right tree of a test."""
    left = read_sum(reader, level)
    mark = reader.take()
    if mark not in TESTS:
        raise BadForm("a test has another mark")
    return left, mark, read_sum(reader, level)


def holds(test, run):
    """Whether a test holds."""
    left, mark, right = test
    first = run.value(left)
    order = compare(first, run.value(right))
    if mark == "<":
        return order < 0
    if mark == "<=":
        return order <= 0
    return (order == 0) == (mark == "==")


def run_block(block, run):
    for statement in block:
        run.begin_step()
        run_statement(statement, run)


def run_statement(statement, run):
    kind = statement[0]
    if kind == "if":
        run_block(statement[2] if holds(statement[1], run) else statement[3], run)
    elif kind == "turn":
        run_turns(statement[1], statement[2], run)
    elif kind == "show":
        run.shown.append(shown_text(run.value(statement[1])))
    else:
        run.known[statement[1]] = run.value(statement[2])


def run_turns(tree, block, run):
    many = run.value(tree)
    if sign_of(many) < 0:
        raise NotAllowed("the number of turns is negative")
    if block:
        for _ in range(turns_up_to_the_end(many)):
            run.begin_step()
            run_block(block, run)


def turns_up_to_the_end(many):
    """The number of turns as an integer; of more turns than there are steps, so many that they come to an end."""
    value = value_within(many, MAX_STEPS.bit_length())
    return MAX_STEPS + 1 if value is None else value


def ending_of(block, run):
    """Runs a program, and tells the word for how it ends."""
    try:
        run_block(block, run)
    except NotAllowed:
        return "refused"
    except BadRange:
        return "range"
    except TooLarge:
        return "large"
    except Missing:
        return "missing"
    except NoSteps:
        return "steps"
    return "ok"


def run_program(text):
    """Runs a program: a tuple of the list of the texts that it shows, the word for its end, and its steps."""
    try:
        block = read_program(text)
    except BadForm:
        return [], "form", 0
    run = Run()
    word = ending_of(block, run)
    return run.shown, word, run.steps
