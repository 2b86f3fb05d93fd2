"""Desks: scripts whose lines are answered one after another."""

from sandreckoner.baum import is_unit
from sandreckoner.errors import NotAllowed, ReckonError
from sandreckoner.forms import compare
from sandreckoner.higman import are_same
from sandreckoner.lines import read_command
from sandreckoner.plain import shown_text
from sandreckoner.programs import run_program
from sandreckoner.sheet import Sheet

MAX_SCRIPT = 3000
MAX_LINES = 40
MAX_UNDO = 8
NO_LETTERS = "."
ORDERS = {-1: "less", 0: "same", 1: "greater"}


def letters_of(text):
    """The word that a line tells."""
    return "" if text == NO_LETTERS else text


def yes_or_no(holds):
    return "yes" if holds else "no"


def program_answer(text):
    """What a program shows, its word and its steps."""
    shown, word, steps = run_program(text)
    return " ".join(shown + [";", word, str(steps)])


class Desk:
    """A sheet, its cells before each change that can be taken back, and those before each one taken back."""

    def __init__(self):
        self.sheet = Sheet()
        self.before = []
        self.behind = []

    def answer(self, line):
        """The answer to a line."""
        command = read_command(line)
        if command is None:
            return "bad"
        try:
            return self.answer_command(command)
        except ReckonError as error:
            return error.word

    def answer_command(self, command):
        if not command:
            return ""
        word = command[0]
        if word == "set" or word == "clear":
            return self.change(command)
        if word == "undo":
            return self.undo()
        if word == "redo":
            return self.redo()
        if word == "renewed":
            return " ".join(self.sheet.renewed()) or "-"
        if word == "image":
            return self.sheet.image() or "-"
        return self.answer_question(word, command[1:])

    def answer_question(self, word, parts):
        """The answer to a command that asks for something about what follows it."""
        if word == "show":
            return shown_text(self.sheet.value_at(parts[0]))
        if word == "form":
            return self.sheet.formula_at(parts[0])
        if word == "value":
            return shown_text(self.sheet.value_of_formula(parts[0]))
        if word == "cmp":
            first = self.sheet.value_of_formula(parts[0])
            return ORDERS[compare(first, self.sheet.value_of_formula(parts[1]))]
        if word == "unit":
            return yes_or_no(is_unit(letters_of(parts[0])))
        if word == "high":
            # Higman's is_unit has the name of Baumslag's: the unit is what is the same as no letters.
            return yes_or_no(are_same(letters_of(parts[0]), ""))
        return program_answer(parts[0])

    def change(self, command):
        """Sets or clears a cell."""
        cells = dict(self.sheet.cells)
        if command[0] == "set":
            self.sheet.set_cell(command[1], command[2])
        else:
            self.sheet.clear_cell(command[1])
        self.before = (self.before + [cells])[-MAX_UNDO:]
        self.behind = []
        return "ok"

    def undo(self):
        """Takes the last change back."""
        if not self.before:
            return "none"
        self.behind.append(dict(self.sheet.cells))
        self.sheet.put_cells(self.before.pop())
        return "ok"

    def redo(self):
        """Makes the last change again that was taken back."""
        if not self.behind:
            return "none"
        self.before.append(dict(self.sheet.cells))
        self.sheet.put_cells(self.behind.pop())
        return "ok"


def run_script(script):
    """The list of the answers to the lines of a script."""
    lines = script.split("\n")
    if len(script) > MAX_SCRIPT or len(lines) > MAX_LINES:
        raise NotAllowed("the script is too long")
    desk = Desk()
    return [desk.answer(line) for line in lines]
