"""Whether two pages are alike from the top."""

from pagestrue.alikeparts import rows_parting
from pagestrue.errors import BadWhat
from pagestrue.likeness import Likeness
from pagestrue.rowtables import RowTable
from pagestrue.topruns import run_top, sound_forms
from pagestrue.webs import join_rows


def pages_part(page, other, what):
    """None for pages that are alike from the top, else the first thing that is not."""
    forms = sound_forms(page)
    its_forms = sound_forms(other)
    if not isinstance(what, str) or what not in ("shown", "left"):
        raise BadWhat(what)
    table = RowTable([])
    its_table = RowTable([])
    shown, _, stand = run_top(table, {}, forms)
    its_shown, _, its_stand = run_top(its_table, {}, its_forms)
    places = join_rows(table, its_table.rows)
    if what == "shown":
        parts = [part for one in shown for part in one]
        its_parts = [places[part] for one in its_shown for part in one]
        return shown_part(table.rows, parts, its_parts)
    return stands_part(table.rows, stand, {name: places[its_stand[name]] for name in its_stand})


def shown_part(rows, parts, its_parts):
    """None if both show alike things, else the first that is not."""
    if len(parts) != len(its_parts):
        return ("many", len(parts), len(its_parts))
    return first_parting(rows, [(at, parts[at], its_parts[at]) for at in range(len(parts))])


def stands_part(rows, stand, its_stand):
    """None if alike things stand, else the first that is not."""
    alone = [name for name in stand if name not in its_stand]
    alone.extend([name for name in its_stand if name not in stand])
    if alone:
        return ("name", min(alone))
    return first_parting(rows, [(name, stand[name], its_stand[name]) for name in sorted(stand)])


def first_parting(rows, trios):
    """None if the two parts of each trio are alike, else the first that are not, with why."""
    likeness = Likeness(RowTable(rows))
    for at, one, part in trios:
        if not likeness.alike(one, part):
            return ("unlike", at, rows, one, part, rows_parting(rows, one, part))
    return None
