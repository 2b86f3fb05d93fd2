"""Sheets: cells with formulas over one another."""

from sandreckoner.errors import BadForm, Missing, NotAllowed, ReckonError, Ring, TooLarge
from sandreckoner.evaluate import value_over
from sandreckoner.formulas import is_name, names_of, read_formula
from sandreckoner.plain import plain_text

MAX_CELLS = 12


class Cell:
    """A formula: its tree, its plain text, and the names in it. It is never changed."""

    def __init__(self, tree):
        self.tree = tree
        self.text = plain_text(tree)
        self.needs = names_of(tree)


def is_reached(name, cells, names):
    """Whether a formula with these names depends on a name, where a dict gives the cells."""
    seen = set()
    todo = list(names)
    while todo:
        other = todo.pop()
        if other == name:
            return True
        if other in cells and other not in seen:
            seen.add(other)
            todo.extend(cells[other].needs)
    return False


class Sheet:
    """Cells under names, and what was calculated for them: values, or words that tell errors."""

    def __init__(self):
        self.cells = {}
        self.known = {}
        self.wrong = {}
        self.fresh = []

    def set_cell(self, name, text):
        """Gives a cell a formula."""
        if not is_name(name):
            raise NotAllowed("not a name")
        cell = Cell(read_formula(text))
        if is_reached(name, self.cells, cell.needs):
            raise Ring("the cell would depend on itself")
        if name not in self.cells:
            if len(self.cells) == MAX_CELLS:
                raise TooLarge("too many cells")
        elif self.cells[name].text == cell.text:
            # Different trees have different plain texts.
            self.fresh = []
            return
        self.cells[name] = cell
        self.calculate([name] + self.dependents(name))

    def clear_cell(self, name):
        """Removes a cell."""
        self.cell_at(name)
        del self.cells[name]
        self.forget(name)
        self.calculate(self.dependents(name))

    def put_cells(self, cells):
        """Puts the cells of a dict in the place of all cells."""
        self.cells = dict(cells)
        self.known = {}
        self.wrong = {}
        self.calculate(list(cells))

    def value_at(self, name):
        """The value of a cell."""
        return value_over(("name", name), self.known, self.wrong)

    def value_of_formula(self, text):
        """The value of a formula over the cells."""
        return value_over(read_formula(text), self.known, self.wrong)

    def formula_at(self, name):
        """The plain text of the formula of a cell."""
        return self.cell_at(name).text

    def names(self):
        """The list of the names of all cells, in ascending order."""
        return sorted(self.cells)

    def renewed(self):
        """The list of the names of the cells that the last change has calculated, in ascending order."""
        return list(self.fresh)

    def image(self):
        """The text of all cells."""
        return "".join([f"{name}={self.cells[name].text};" for name in self.names()])

    def cell_at(self, name):
        if name not in self.cells:
            raise Missing("no cell has this name")
        return self.cells[name]

    def dependents(self, name):
        """The list of the names of the cells that depend on a name."""
        return [other for other in self.cells if is_reached(name, self.cells, self.cells[other].needs)]

    def forget(self, name):
        """Takes away what was calculated for a name."""
        self.known.pop(name, None)
        self.wrong.pop(name, None)

    def calculate(self, names):
        """Calculates cells, each one behind those that it depends on."""
        self.fresh = sorted(names)
        todo = names
        while todo:
            later = [name for name in todo if any([part in todo for part in self.cells[name].needs])]
            for name in todo:
                if name not in later:
                    self.calculate_cell(name)
            todo = later

    def calculate_cell(self, name):
        self.forget(name)
        try:
            self.known[name] = value_over(self.cells[name].tree, self.known, self.wrong)
        except ReckonError as error:
            self.wrong[name] = error.word


def cells_of(text):
    """The dict of the cells that an image tells."""
    cells = {}
    for part in text.split(";")[:-1]:
        name, _, formula = part.partition("=")
        if not is_name(name):
            raise BadForm("not a name")
        cells[name] = Cell(read_formula(formula))
    return cells


def load_sheet(text):
    """The sheet with an image."""
    cells = cells_of(text)
    if len(cells) > MAX_CELLS:
        raise BadForm("too many cells")
    if any([is_reached(name, cells, cells[name].needs) for name in cells]):
        raise BadForm("a cell depends on itself")
    sheet = Sheet()
    sheet.put_cells(cells)
    if sheet.image() != text:
        raise BadForm("not the image of a sheet")
    return sheet
