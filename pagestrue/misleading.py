"""Rows of runs from nothing, held against the run from the top."""

from pagestrue.alikeparts import rows_parting
from pagestrue.cellruns import run_row
from pagestrue.meanings import rows_fault
from pagestrue.toplooks import TopLook
from pagestrue.topruns import are_runs, judged_runs, sound_forms, top_table
from pagestrue.words import is_list


def row_on_top(forms, runs):
    """The web of the top with a row of runs from nothing, and what each run tells."""
    table = top_table(forms)
    told, _ = run_row(table, {}, forms, runs)
    return (table.rows, told)


def on_top(page, runs):
    """The web behind the row, and of each run None for a miss, else what it shows and leaves."""
    forms = sound_forms(page)
    return row_on_top(forms, judged_runs(forms, runs))


def first_wrong_run(look, runs):
    """The place of the first untrue run and the first untrue thing of it, None without one."""
    owners = {}
    for at, place in enumerate(runs):
        if not look.misses(place, owners):
            what = look.untrue(place, owners)
            if what is not None:
                return (at, what)
            owners = look.owned(place, owners)
    return None


def untrue_at(page, runs):
    """None if no run of the row is untrue, else where the first one is, and in what."""
    forms = sound_forms(page)
    return first_wrong_run(TopLook(forms), judged_runs(forms, runs))


def untrue_meaning(page, runs):
    """None if no run is untrue, else the web, the untrue part, the top's one, what parts them."""
    forms = sound_forms(page)
    look = TopLook(forms)
    found = first_wrong_run(look, judged_runs(forms, runs))
    if found is None:
        return None
    at, what = found
    rows, told = row_on_top(forms, runs)
    one = thing_told(told[at], what)
    other = thing_told((look.showns[runs[at]], look.lefts[runs[at]]), what)
    return (rows, one, other, rows_parting(rows, one, other))


def thing_told(told, what):
    """The part that is the thing, of what is shown and left."""
    return told[0 if what[0] == "shown" else 1][what[1]]


def is_misleading(page, thing):
    """Whether it is a row of runs and a meaning by which its last run is untrue."""
    forms = sound_forms(page)
    if not is_list(thing) or len(thing) != 2 or not are_runs(forms, thing[0]):
        return False
    rows, told = row_on_top(forms, thing[0])
    if not told or told[-1] is None or rows_fault(rows, thing[1]) is not None:
        return False
    place = thing[0][-1]
    look = TopLook(forms)
    mine = parts_told(told[-1])
    tops = parts_told((look.showns[place], look.lefts[place]))
    return any([thing[1][one] != thing[1][other] for one, other in zip(mine, tops)])


def parts_told(told):
    """All parts that are shown, then those that are left, names ascending."""
    return told[0] + [told[1][name] for name in told[1]]
