"""One run of a cell on what stands."""

from pagestrue.cellforms import judged_cell
from pagestrue.cellruns import run_cell
from pagestrue.errors import BadStand
from pagestrue.webforms import is_part, judged_web
from pagestrue.words import is_name


def is_stand(web, thing):
    """Whether it is a stand for the web."""
    return stands_on(judged_web(web).rows, thing)


def stands_on(rows, thing):
    """Whether it is a dict from names to parts of the rows."""
    if not isinstance(thing, dict) or not all([is_name(name) for name in thing]):
        return False
    return all([is_part(rows, part) for part in thing.values()])


def judged_stand(rows, stand):
    """A stand for the rows."""
    if not stands_on(rows, stand):
        raise BadStand(stand)
    return stand


def ran(web, stand, cell):
    """None for a miss, else the web, the stand behind the run, what it shows and leaves."""
    table = judged_web(web)
    judged_stand(table.rows, stand)
    went = run_cell(table, stand, judged_cell(cell))
    return None if went is None else (table.rows, went[0], went[1], went[2])
