"""The run from the top, and what it needs."""

from pagestrue.cellforms import names_read, names_set
from pagestrue.pages import judged_page
from pagestrue.rowtables import RowTable
from pagestrue.runs import judged_stand
from pagestrue.topruns import miss_of, run_top, sound_forms
from pagestrue.webforms import judged_web


def first_miss(page):
    """The first cell that misses in the run from the top, None without one."""
    return miss_of(judged_page(page), {})


def top(page):
    """The web, what each cell shows, what each leaves, and what stands at the end."""
    forms = sound_forms(page)
    return told_top(RowTable([]), {}, forms)


def told_top(table, stand, forms):
    """The run from the top on this stand, as it is told."""
    shown, lefts, behind = run_top(table, stand, forms)
    return (table.rows, shown, lefts, behind)


def needs(page):
    """The ascending list of the names that have to stand ahead of the run from the top."""
    done = {}
    found = {}
    for form in judged_page(page):
        for name in names_read(form):
            if name not in done:
                found[name] = True
        for name in names_set(form):
            done[name] = True
    return sorted(found)


def top_behind(web, stand, page):
    """The run from the top on this stand, None if it misses."""
    table = judged_web(web)
    judged_stand(table.rows, stand)
    forms = judged_page(page)
    return None if miss_of(forms, stand) is not None else told_top(table, stand, forms)
