"""Cells as tuples throughout: judged once, then never changed by anybody."""

from pagestrue.errors import BadCell
from pagestrue.words import are_names, is_list, is_name

# Ifs deeper than this are refused: a list that holds itself would have no end.
DEEPEST = 60


def cell_form(thing):
    """The cell as tuples, None if it is no cell."""
    return statements_form(thing, True, 0)


def judged_cell(cell):
    """The cell as tuples."""
    form = cell_form(cell)
    if form is None:
        raise BadCell(cell)
    return form


def statements_form(thing, lets_show, depth):
    """A list of statements as tuples, None if it is none."""
    if not is_list(thing):
        return None
    forms = []
    for one in thing:
        form = statement_form(one, lets_show, depth)
        if form is None:
            return None
        forms.append(form)
    return tuple(forms)


def statement_form(thing, lets_show, depth):
    """A statement as tuples, None if it is none."""
    if not is_list(thing) or len(thing) == 0 or not isinstance(thing[0], str):
        return None
    word = thing[0]
    if word == "if" and len(thing) == 5 and depth < DEEPEST:
        return if_form(thing, depth + 1)
    if word == "set" and len(thing) == 4 and are_names(thing[1:3]) and are_names(thing[3]):
        return ("set", thing[1], thing[2], tuple(thing[3]))
    if word == "copy" and len(thing) == 3 and are_names(thing[1:]):
        return ("copy", thing[1], thing[2])
    if word == "show" and len(thing) == 2 and is_name(thing[1]) and lets_show:
        return ("show", thing[1])
    return None


def if_form(thing, depth):
    """An if as tuples, None if its pieces are wrong."""
    if not is_name(thing[1]) or not are_names(thing[2]):
        return None
    yes = statements_form(thing[3], False, depth)
    if yes is None:
        return None
    no = statements_form(thing[4], False, depth)
    if no is None or names_set(yes) != names_set(no):
        return None
    return ("if", thing[1], tuple(thing[2]), yes, no)


def names_set(statements):
    """The ascending list of the names that the statements set."""
    found = {}
    for statement in statements:
        if statement[0] == "if":
            # Both sides set the same names, so one of them tells.
            for name in names_set(statement[3]):
                found[name] = True
        elif statement[0] != "show":
            found[statement[1]] = True
    return sorted(found)


def names_read(statements):
    """The ascending list of the names read ahead of being set, on whichever side."""
    found = {}
    note_reads(statements, {}, found)
    return sorted(found)


def note_reads(statements, done, found):
    """Put into found what is read while only the names in done are set."""
    for statement in statements:
        for name in read_first(statement):
            if name not in done:
                found[name] = True
        if statement[0] == "if":
            for side in statement[3:]:
                note_reads(side, dict(done), found)
        for name in names_set([statement]):
            done[name] = True


def read_first(statement):
    """The names that a statement reads itself, of an if those of its test."""
    if statement[0] == "set":
        return statement[3]
    if statement[0] == "if":
        return statement[2]
    return statement[-1:]


def has_if(form):
    """Whether the cell has an if."""
    return any([statement[0] == "if" for statement in form])


def told_statements(form):
    """The statements as they are told: tuples, names and sides in new lists."""
    return [told_statement(statement) for statement in form]


def told_statement(statement):
    """A statement as it is told."""
    if statement[0] == "set":
        return ("set", statement[1], statement[2], list(statement[3]))
    if statement[0] == "if":
        sides = [told_statements(side) for side in statement[3:]]
        return ("if", statement[1], list(statement[2]), sides[0], sides[1])
    return statement
