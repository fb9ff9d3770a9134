"""Scripts: cells that make wanted rows of a web, with as few steps as can be."""

from pagestrue.cellforms import cell_form
from pagestrue.cellruns import run_cell
from pagestrue.refusals import BadPlainWeb, BadScript, BadWanted
from pagestrue.rowtables import RowTable, cone_of
from pagestrue.webforms import scanned_web
from pagestrue.words import are_names, first_wrong, is_list, is_place


def judged_wanted(web, wanted):
    """The rows of a web of made rows alone, of which these are wanted."""
    table, fault = scanned_web(web)
    if fault is not None or not all([row[0] == "made" for row in table.rows]):
        raise BadPlainWeb(web)
    if not is_list(wanted):
        raise BadWanted(0)
    wrong = first_wrong([is_place(one, len(table.rows)) for one in wanted])
    if wrong is not None:
        raise BadWanted(wrong)
    return table.rows


def needed_rows(web, wanted):
    """The ascending list of the rows on which the wanted ones hang, themselves too."""
    return cone_of(judged_wanted(web, wanted), wanted)


def script_form(rows, wanted, thing):
    """The cell, as tuples, of a script for the wanted rows, None for what is none."""
    if not is_list(thing) or len(thing) != 2 or not are_names(thing[1]) or len(thing[1]) != len(wanted):
        return None
    form = cell_form(thing[0])
    if form is None or not all([statement[0] in ("set", "copy") for statement in form]):
        return None
    went = run_cell(RowTable(rows), {}, form)
    if went is None or not all([went[0].get(name) == at for name, at in zip(thing[1], wanted)]):
        return None
    return form


def is_script(web, wanted, thing):
    """Whether it is a script for the wanted rows."""
    return script_form(judged_wanted(web, wanted), wanted, thing) is not None


def script_steps(web, wanted, script):
    """How many sets the script has."""
    form = script_form(judged_wanted(web, wanted), wanted, script)
    if form is None:
        raise BadScript(script)
    return len([statement for statement in form if statement[0] == "set"])


def least_script(web, wanted):
    """A script with the fewest sets: each needed row is made once, under a name of its own."""
    rows = judged_wanted(web, wanted)
    needed = cone_of(rows, wanted)
    names = {at: "n" + str(at) for at in needed}
    cell = [("set", names[at], rows[at][1], [names[need] for need in rows[at][2]]) for at in needed]
    return (cell, [names[at] for at in wanted])


def fewest_steps(web, wanted):
    """How many sets a script has at least."""
    return len(needed_rows(web, wanted))
