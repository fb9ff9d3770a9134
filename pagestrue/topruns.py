"""Runs from the top: all cells in order, on whatever stands."""

from pagestrue.cellforms import names_read, names_set
from pagestrue.cellruns import has_all, run_row
from pagestrue.errors import BadRuns, Unsound
from pagestrue.pages import ifless_forms, judged_page
from pagestrue.rowtables import RowTable
from pagestrue.words import is_list, is_place


def miss_of(forms, stand):
    """The first cell that misses in the run from the top on this stand, None without one."""
    standing = dict(stand)
    for at, form in enumerate(forms):
        if not has_all(standing, names_read(form)):
            return at
        for name in names_set(form):
            standing[name] = True
    return None


def sound_forms(page):
    """The cells, as tuples, of a sound page."""
    forms = judged_page(page)
    refuse_unsound(forms)
    return forms


def plain_forms(page):
    """The cells, as tuples, of a sound page without ifs."""
    forms = ifless_forms(page)
    refuse_unsound(forms)
    return forms


def refuse_unsound(forms):
    """Raise Unsound of the first cell that misses from the top."""
    miss = miss_of(forms, {})
    if miss is not None:
        raise Unsound(miss)


def run_top(table, stand, forms):
    """What each cell shows, what each leaves, and the stand behind, where none misses."""
    told, behind = run_row(table, stand, forms, list(range(len(forms))))
    return ([shown for shown, left in told], [left for shown, left in told], behind)


def top_table(forms):
    """A new table of the web of the run from the top, of a sound page."""
    table = RowTable([])
    run_top(table, {}, forms)
    return table


def judged_runs(forms, runs):
    """A row of runs of these cells."""
    if not are_runs(forms, runs):
        raise BadRuns(runs)
    return runs


def are_runs(forms, thing):
    """Whether it is a list of places of cells."""
    return is_list(thing) and all([is_place(one, len(forms)) for one in thing])
