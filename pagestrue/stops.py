"""Runs that stop amid their steps."""

from pagestrue.cellforms import judged_cell, names_read, names_set
from pagestrue.cellruns import go_cell, has_all
from pagestrue.runs import judged_stand
from pagestrue.topruns import judged_runs, sound_forms, top_table
from pagestrue.webforms import judged_web


def went(web, stand, cell):
    """How many statements are done, and what comes of them."""
    table = judged_web(web)
    judged_stand(table.rows, stand)
    many, behind, shown, left = go_cell(table, stand, judged_cell(cell))
    return (many, table.rows, behind, shown, left)


def went_along(page, runs):
    """The web behind a row of such runs, on the top's, and what each run does, shows, leaves."""
    forms = sound_forms(page)
    judged_runs(forms, runs)
    table = top_table(forms)
    stand = {}
    told = []
    for place in runs:
        many, stand, shown, left = go_cell(table, stand, forms[place])
        told.append((many, shown, left))
    return (table.rows, told)


def how_far(form, names):
    """How many statements are done where just these names stand."""
    standing = {name: True for name in names}
    many = 0
    for statement in form:
        if not has_all(standing, names_read([statement])):
            break
        for name in names_set([statement]):
            standing[name] = True
        many += 1
    return many


def standing_walk(forms):
    """All lots of names that stand behind some row, and all places where a cell stops."""
    known = {(): True}
    stopped = {}
    todo = [()]
    while todo:
        names = todo.pop()
        for place, form in enumerate(forms):
            many = how_far(form, names)
            if many < len(form):
                stopped[(place, many)] = True
            behind = tuple(sorted(set(list(names) + names_set(form[:many]))))
            if behind not in known:
                known[behind] = True
                todo.append(behind)
    return (sorted(known), sorted(stopped))


def standing_lots(page):
    """The ascending list of the ascending lists of names that can stand."""
    return [list(names) for names in standing_walk(sound_forms(page))[0]]


def can_stop(page):
    """The ascending list of the pairs of a cell and how much of it is done where it stops."""
    return standing_walk(sound_forms(page))[1]
