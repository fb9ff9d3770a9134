"""Webs judged: rows as tuples, and what is wrong with them."""

from pagestrue.errors import BadPart, BadWeb
from pagestrue.rowtables import RowTable, named_rows
from pagestrue.words import are_numbers, is_list, is_name, is_place


def row_form(thing):
    """The row as tuples, None if it has no row's form."""
    if not is_list(thing) or len(thing) == 0 or not isinstance(thing[0], str):
        return None
    word = thing[0]
    if word in ("made", "asked") and len(thing) == 3:
        is_right = is_name(thing[1]) and are_numbers(thing[2])
        return (word, thing[1], tuple(thing[2])) if is_right else None
    if word == "either" and len(thing) == 4 and are_numbers(thing[1:]):
        return (word, thing[1], thing[2], thing[3])
    if word == "given" and len(thing) == 2 and are_numbers(thing[1:]):
        return (word, thing[1])
    return None


def row_why(rows, row):
    """Why a row can not stand behind the rows: "ahead", "kind", "alike", None if it can."""
    if not all([at < len(rows) for at in named_rows(row)]):
        return "ahead"
    parts = named_rows(row)
    if row[0] == "either":
        if rows[row[1]][0] != "asked":
            return "kind"
        parts = row[2:]
    if not all([is_part(rows, at) for at in parts]):
        return "kind"
    if row[0] == "either" and row[2] == row[3]:
        return "alike"
    return None


def scanned_web(thing):
    """The pair of a table of the rows ahead of the first wrong one, and its fault or None."""
    table = RowTable([])
    if not is_list(thing):
        return (table, (0, "form"))
    for at, one in enumerate(thing):
        row = row_form(one)
        why = "form" if row is None else row_why(table.rows, row)
        if why is None and row in table.where:
            why = "twice"
        if why is not None:
            return (table, (at, why))
        table.put_in(row)
    return (table, None)


def judged_web(web):
    """A new table of the web's rows."""
    table, fault = scanned_web(web)
    if fault is not None:
        raise BadWeb(fault[0])
    return table


def is_part(rows, thing):
    """Whether it is the index of a row that is no asked one."""
    return is_place(thing, len(rows)) and rows[thing][0] != "asked"


def judged_part(rows, part):
    """The index of a part."""
    if not is_part(rows, part):
        raise BadPart(part)
    return part
