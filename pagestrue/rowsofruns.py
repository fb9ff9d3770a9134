"""Rows of runs from nothing: what they tell, on what they hang, who left what."""

from pagestrue.cellforms import names_read
from pagestrue.cellruns import run_row
from pagestrue.errors import BadTurn
from pagestrue.pages import judged_page
from pagestrue.rowtables import RowTable
from pagestrue.topruns import judged_runs
from pagestrue.words import is_place


def played_row(page, runs):
    """The page's cells, the web, what each run tells, and the stand behind the row."""
    forms = judged_page(page)
    table = RowTable([])
    told, stand = run_row(table, {}, forms, judged_runs(forms, runs))
    return (forms, table.rows, told, stand)


def played(page, runs):
    """The web, and of each run None for a miss, else what it shows and leaves."""
    return played_row(page, runs)[1:3]


def stand_behind(page, runs):
    """The web and the stand at the end."""
    return played_row(page, runs)[1::2]


def hangs_on(page, runs, place):
    """The ascending list of the places of the runs on which a run hangs, its own too."""
    forms, _, told, _ = played_row(page, runs)
    if not is_place(place, len(runs)) or told[place] is None:
        raise BadTurn(place)
    found = {}
    todo = [place]
    while todo:
        at = todo.pop()
        if at not in found:
            found[at] = True
            last = last_leavers(told[:at])
            todo.extend([last[name] for name in names_read(forms[runs[at]])])
    return sorted(found)


def last_leavers(told):
    """The dict, ascending, from names to the place of the run that left each one last."""
    found = {}
    for at, one in enumerate(told):
        if one is not None:
            for name in one[1]:
                found[name] = at
    return {name: found[name] for name in sorted(found)}


def leavers(page, runs):
    """Who left last what stands behind the row."""
    return last_leavers(played_row(page, runs)[2])
