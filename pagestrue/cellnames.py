"""What cells read and set, and what this tells of two of them."""

from pagestrue.cellforms import cell_form, judged_cell, names_read, names_set, told_statements
from pagestrue.errors import BadOtherCell


def sets_of(cell):
    """The ascending list of the names that the cell sets."""
    return names_set(judged_cell(cell))


def reads_of(cell):
    """The ascending list of the names that it reads without having set them further up."""
    return names_read(judged_cell(cell))


def nest_of(cell):
    """How deep its ifs stand in one another."""
    return nest_depth(judged_cell(cell))


def nest_depth(form):
    """How deep the ifs of these statements stand in one another."""
    inner = [nest_depth(statement[3] + statement[4]) for statement in form if statement[0] == "if"]
    return 1 + max(inner) if inner else 0


def judged_two(cell, other):
    """Both cells as tuples."""
    form = judged_cell(cell)
    its = cell_form(other)
    if its is None:
        raise BadOtherCell(other)
    return (form, its)


def free_of(cell, other):
    """Whether neither cell sets a name that the other one reads or sets."""
    form, its = judged_two(cell, other)
    return not touches(form, its) and not touches(its, form)


def touches(form, its):
    """Whether the one cell sets a name that the other one reads or sets."""
    touched = names_read(its) + names_set(its)
    return any([name in touched for name in names_set(form)])


def joined_cells(cell, other):
    """The cell of the statements of both, one behind another."""
    form, its = judged_two(cell, other)
    return told_statements(form + its)
