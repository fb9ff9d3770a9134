"""Runs of cells on a table of rows, which grows by them."""

from pagestrue.cellforms import names_read, names_set


def run_cell(table, stand, form):
    """None for a miss, else the triple of the stand behind, what is shown, what is left."""
    if not has_all(stand, names_read(form)):
        return None
    return go_cell(table, stand, form)[1:]


def go_cell(table, stand, form):
    """As far as the cell can go: how many statements, the stand behind, what is shown, left."""
    now = dict(stand)
    shown = []
    many = 0
    for statement in form:
        if not has_all(now, names_read([statement])):
            break
        do_statement(table, now, statement, shown)
        many += 1
    left = {name: now[name] for name in names_set(form[:many])}
    return (many, ascending(now), shown, left)


def has_all(stand, names):
    """Whether all these names stand."""
    return all([name in stand for name in names])


def ascending(stand):
    """The dict with its names in order."""
    return {name: stand[name] for name in sorted(stand)}


def do_statement(table, stand, statement, shown):
    """Do a statement of which all that it reads stands, changing stand and shown."""
    word = statement[0]
    if word == "show":
        shown.append(stand[statement[1]])
    elif word == "copy":
        stand[statement[1]] = stand[statement[2]]
    elif word == "set":
        row = ("made", statement[2], parts_under(stand, statement[3]))
        stand[statement[1]] = table.put_in(row)
    else:
        do_if(table, stand, statement)


def parts_under(stand, names):
    """What stands under the names."""
    return tuple([stand[name] for name in names])


def do_if(table, stand, statement):
    """Do both sides of an if, each from what stood ahead of it."""
    asked = table.put_in(("asked", statement[1], parts_under(stand, statement[2])))
    behind = []
    for side in statement[3:]:
        inner = dict(stand)
        for within in side:
            do_statement(table, inner, within, [])
        behind.append(inner)
    for name in names_set(statement[3]):
        yes = behind[0][name]
        no = behind[1][name]
        stand[name] = yes if yes == no else table.put_in(("either", asked, yes, no))


def run_row(table, stand, forms, runs):
    """Of each run None for a miss, else what is shown and left; and the stand behind them all."""
    told = []
    # Where nothing is run, or all misses, what was passed must not be what is told.
    behind = ascending(stand)
    for place in runs:
        went = run_cell(table, behind, forms[place])
        if went is None:
            told.append(None)
        else:
            behind = went[0]
            told.append((went[1], went[2]))
    return (told, behind)
