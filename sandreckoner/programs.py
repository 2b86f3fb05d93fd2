"""Programs: texts whose statements calculate with numbers and show them."""

from sandreckoner.errors import BadForm, NoSteps, NotAllowed, ReckonError
from sandreckoner.evaluate import value_of
from sandreckoner.forms import compare, sign_of
from sandreckoner.formulas import Reader, deeper, is_name
from sandreckoner.plain import shown_text
from sandreckoner.small import value_within

MAX_STEPS = 2000
TESTS = ("<", "<=", "==", "!=")


class ProgramReader(Reader):
    """The tokens of a program, and how far they are read."""

    def read_statements(self, level):
        """The list of the statements up to the end of a block or of the text."""
        block = []
        while self.ahead() not in ("", "}"):
            block.append(self.read_statement(level))
        return block

    def read_statement(self, level):
        """The next statement, a tuple of its kind and its parts."""
        token = self.take()
        if token == "if":
            test = self.read_test(level)
            block = self.read_block(level)
            other = self.read_block(level) if self.skip("else") else []
            return ("if", test, block, other)
        if token == "turn":
            tree = self.read_sum(level)
            return ("turn", tree, self.read_block(level))
        if token == "show":
            return ("show", self.read_last_sum(level))
        if not is_name(token):
            raise BadForm("a statement begins with something else")
        self.demand("=")
        return ("let", token, self.read_last_sum(level))

    def read_last_sum(self, level):
        """The tree of the sum at the end of a statement."""
        tree = self.read_sum(level)
        self.demand(";")
        return tree

    def read_block(self, level):
        """The list of the statements of a block."""
        self.demand("{")
        block = self.read_statements(deeper(level))
        self.demand("}")
        return block

    def read_test(self, level):
        """A tuple of the left tree, the mark and the right tree of a test."""
        left = self.read_sum(level)
        mark = self.take()
        if mark not in TESTS:
            raise BadForm("a test has another mark")
        return left, mark, self.read_sum(level)


def read_program(text):
    """The list of the statements of a program."""
    reader = ProgramReader(text)
    block = reader.read_statements(0)
    reader.check_end()
    return block


def turns_up_to_the_end(many):
    """The number of turns as an integer; of more turns than there are steps, so many that they come to an end."""
    value = value_within(many, MAX_STEPS.bit_length())
    return MAX_STEPS + 1 if value is None else value


class Run:
    """What a program has shown so far, the values of its names, and the number of its steps."""

    def __init__(self):
        self.shown = []
        self.known = {}
        self.steps = 0

    def begin_step(self):
        if self.steps == MAX_STEPS:
            raise NoSteps("no steps are left")
        self.steps += 1

    def value(self, tree):
        return value_of(tree, self.known)

    def run_block(self, block):
        for statement in block:
            self.begin_step()
            self.run_statement(statement)

    def run_statement(self, statement):
        kind = statement[0]
        if kind == "if":
            self.run_block(statement[2] if self.holds(statement[1]) else statement[3])
        elif kind == "turn":
            self.run_turns(self.value(statement[1]), statement[2])
        elif kind == "show":
            self.shown.append(shown_text(self.value(statement[1])))
        else:
            self.known[statement[1]] = self.value(statement[2])

    def holds(self, test):
        """Whether a test holds."""
        left, mark, right = test
        first = self.value(left)
        order = compare(first, self.value(right))
        if mark == "<":
            return order < 0
        if mark == "<=":
            return order <= 0
        return (order == 0) == (mark == "==")

    def run_turns(self, many, block):
        if sign_of(many) < 0:
            raise NotAllowed("the number of turns is negative")
        if block:
            for _ in range(turns_up_to_the_end(many)):
                self.begin_step()
                self.run_block(block)

    def ending(self, block):
        """Runs a program, and tells the word for how it ends."""
        try:
            self.run_block(block)
        except ReckonError as error:
            return error.word
        return "ok"


def run_program(text):
    """Runs a program: a tuple of the list of the texts that it shows, the word for its end, and its steps."""
    try:
        block = read_program(text)
    except BadForm:
        return [], "form", 0
    run = Run()
    word = run.ending(block)
    return run.shown, word, run.steps
