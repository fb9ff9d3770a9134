"""Rows done over and over: they come round, or something grows for ever."""

from pagestrue.cellruns import run_row
from pagestrue.makings import given_table, makings_of, ring_in
from pagestrue.pages import ifless_forms, names_of
from pagestrue.rowtables import RowTable
from pagestrue.toplooks import pairs_of
from pagestrue.topruns import judged_runs


def comes_round(page, ahead, again):
    """How many turns go ahead of the round and how long it is, or names that grow each turn."""
    forms = ifless_forms(page)
    judged_runs(forms, ahead)
    judged_runs(forms, again)
    table = RowTable([])
    stand = run_row(table, {}, forms, ahead)[1]
    settled = stand
    # Behind so many turns nothing misses that ever runs.
    for _ in names_of(page)[0]:
        settled = run_row(table, settled, forms, again)[1]
    ring = ring_in(turn_links(forms, list(settled), again))
    if ring is not None:
        return ("grows", [link[2] for link in ring])
    known = {}
    while pairs_of(stand) not in known:
        known[pairs_of(stand)] = len(known)
        stand = run_row(table, stand, forms, again)[1]
    tail = known[pairs_of(stand)]
    return ("round", tail, len(known) - tail)


def turn_links(forms, names, again):
    """Of which names a turn makes which, where just these names stand."""
    table, stand = given_table(names)
    behind = run_row(table, stand, forms, again)[1]
    return [(0,) + made for made in makings_of(table.rows, names, behind)]
