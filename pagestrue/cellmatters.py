"""Which of the names that a cell reads matter."""

from pagestrue.cellforms import judged_cell, names_read
from pagestrue.cellruns import run_cell
from pagestrue.errors import BadName
from pagestrue.likeness import Likeness, first_unlike
from pagestrue.rowtables import RowTable
from pagestrue.words import is_name


def matters(cell, name):
    """None for a name that does not matter, else the first thing that hangs on it."""
    form = judged_cell(cell)
    names = names_read(form)
    if not is_name(name) or name not in names:
        raise BadName(name)
    return what_hangs(form, names, name)


def what_hangs(form, names, name):
    """The first thing shown or left that hangs on the name, None without any."""
    table = RowTable([("given", at) for at in range(len(names) + 1)])
    stand = {each: at for at, each in enumerate(names)}
    first = run_cell(table, stand, form)
    stand[name] = len(names)
    second = run_cell(table, stand, form)
    return first_unlike(Likeness(table), first[1:], second[1:])


def mattering(cell):
    """The ascending list of the names that matter."""
    form = judged_cell(cell)
    names = names_read(form)
    return [name for name in names if what_hangs(form, names, name) is not None]
