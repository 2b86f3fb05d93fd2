"""Lines of scripts, read as commands."""

from sandreckoner.formulas import is_name

ALONE = ("renewed", "undo", "redo", "image")
WITH_NAME = ("clear", "show", "form")
WITH_TEXT = ("value", "unit", "high")


def read_command(line):
    """A tuple of the command of a line and what follows it; None for a line of another form."""
    if line == "":
        return ()
    word, space, rest = line.partition(" ")
    if word in ALONE:
        return None if space else (word,)
    if word in WITH_NAME:
        return (word, rest) if is_name(rest) else None
    if word in WITH_TEXT:
        return (word, rest) if rest else None
    if word == "set":
        name, _, formula = rest.partition(" = ")
        return (word, name, formula) if is_name(name) and formula else None
    if word == "cmp":
        first, _, second = rest.partition(" ; ")
        return (word, first, second) if first and second else None
    return (word, rest) if word == "run" else None
