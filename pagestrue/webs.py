"""Webs: rows made of rows ahead of them, judged, put in, joined."""

from pagestrue.errors import BadIts, BadOther, BadRow
from pagestrue.rowtables import led_row
from pagestrue.webforms import is_part, judged_part, judged_web, row_form, row_why, scanned_web


def web_fault(thing):
    """None for a web, else the index of its first wrong thing and why it is wrong."""
    return scanned_web(thing)[1]


def is_web(thing):
    """Whether it is a web."""
    return web_fault(thing) is None


def put_row(web, row):
    """The web with the row, and the row's index."""
    table = judged_web(web)
    form = row_form(row)
    if form is None or row_why(table.rows, form) is not None:
        raise BadRow(row)
    at = table.put_in(form)
    return (table.rows, at)


def judged_other(other):
    """A new table of the other web's rows."""
    table, fault = scanned_web(other)
    if fault is not None:
        raise BadOther(fault[0])
    return table


def joined_webs(web, other):
    """The web with the rows of the other one, and where each of these stands."""
    table = judged_web(web)
    its = judged_other(other)
    places = join_rows(table, its.rows)
    return (table.rows, places)


def join_rows(table, rows):
    """Put the rows of another web in: the list of where each of them stands."""
    places = []
    for row in rows:
        places.append(table.put_in(led_row(row, places)))
    return places


def same_part(web, part, other, its):
    """Whether both parts, each of its own web, are made in the same way throughout."""
    table = judged_web(web)
    judged_part(table.rows, part)
    other_rows = judged_other(other).rows
    if not is_part(other_rows, its):
        raise BadIts(its)
    return join_rows(table, other_rows)[its] == part
