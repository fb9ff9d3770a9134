"""Which parts of a web are alike, and by what meaning others are not."""

from pagestrue.likeness import Likeness, parting_choices
from pagestrue.meanings import free_walk, free_walks
from pagestrue.webforms import judged_part, judged_web


def judged_two(web, one, other):
    """A new table of the web, both being parts of it."""
    table = judged_web(web)
    judged_part(table.rows, one)
    judged_part(table.rows, other)
    return table


def are_alike(web, one, other):
    """Whether both parts have one number in every right meaning."""
    return Likeness(judged_two(web, one, other)).alike(one, other)


def parting_meaning(web, one, other):
    """None for parts that are alike, else the least free meaning by which they are not."""
    return rows_parting(judged_two(web, one, other).rows, one, other)


def rows_parting(rows, one, other):
    """The meaning of the rows that parts both, None if they are alike."""
    choices = parting_choices(rows, one, other)
    return None if choices is None else free_walk(rows, choices).meaning


def alike_parts(web):
    """The lists of the parts that are alike, by their first ones."""
    rows = judged_web(web).rows
    lots = [[at for at, row in enumerate(rows) if row[0] != "asked"]]
    for walk in free_walks(rows):
        lots = [part for lot in lots for part in split_lot(lot, walk.meaning)]
    return sorted(lots)


def split_lot(lot, meaning):
    """The lot's parts, those with one number together."""
    by_number = {}
    for part in lot:
        by_number.setdefault(meaning[part], []).append(part)
    return list(by_number.values())
