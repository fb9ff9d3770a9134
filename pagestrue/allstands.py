"""All stands that come, and lots of stands that nothing leaves."""

from pagestrue.cellruns import run_cell
from pagestrue.comings import links_of
from pagestrue.makings import ring_in
from pagestrue.pages import ifless_forms
from pagestrue.rowtables import RowTable
from pagestrue.runs import stands_on
from pagestrue.toplooks import pairs_of
from pagestrue.webforms import judged_web
from pagestrue.words import is_list


def all_stands(page):
    """None if there is a ring, else the web, and each stand that comes with its least row."""
    forms = ifless_forms(page)
    if ring_in(links_of(forms)) is not None:
        return None
    table = RowTable([])
    known = {(): True}
    told = [([], {})]
    at = 0
    while at < len(told):
        runs, stand = told[at]
        for place, form in enumerate(forms):
            behind = stand_after(table, stand, form)
            if pairs_of(behind) not in known:
                known[pairs_of(behind)] = True
                told.append((runs + [place], behind))
        at += 1
    return (table.rows, told)


def stand_after(table, stand, form):
    """What stands behind a run of the cell, the same stand behind a miss."""
    went = run_cell(table, stand, form)
    return stand if went is None else went[0]


def is_closed(page, web, thing):
    """Whether it is a list of unlike stands, {} among them, that no run leaves."""
    forms = ifless_forms(page)
    table = judged_web(web)
    many = len(table.rows)
    if not is_list(thing) or not all([stands_on(table.rows, one) for one in thing]):
        return False
    known = {pairs_of(one): True for one in thing}
    if () not in known or len(known) < len(thing):
        return False
    for stand in thing:
        for form in forms:
            behind = stand_after(table, stand, form)
            if len(table.rows) > many or pairs_of(behind) not in known:
                return False
    return True
