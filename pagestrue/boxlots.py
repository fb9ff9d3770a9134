"""A row of runs that misleads, or a closed lot of standings; who shares a box with whom."""

from pagestrue.boxforms import standing_form, told_standing
from pagestrue.boxpages import sound_boxes
from pagestrue.refusals import Misleads
from pagestrue.topruns import are_runs
from pagestrue.words import is_list


def box_row(boxpage):
    """The shortest row behind the top that ends misleading, of these the least, None without one."""
    look = sound_boxes(boxpage)
    return look.closed_walk(look.last)[1]


def is_box_row(boxpage, thing):
    """Whether it is a row of runs behind the top of which just the last one misleads."""
    look = sound_boxes(boxpage)
    return are_runs(look.forms, thing) and look.misled_at(look.last, thing) == len(thing) - 1


def box_lot(boxpage):
    """The least closed lot, None if some row misleads."""
    known, row = sound_boxes(boxpage).closed_walk(())
    return None if row is not None else [told_standing(standing) for standing in sorted(known)]


def is_box_lot(boxpage, thing):
    """Whether it is a closed lot of standings."""
    look = sound_boxes(boxpage)
    if not is_list(thing):
        return False
    standings = [standing_form(look.table.rows, one) for one in thing]
    return None not in standings and look.is_closed(standings)


def shared(boxpage):
    """The ascending list of the pairs of names that hold one box in some standing that comes."""
    look = sound_boxes(boxpage)
    row = look.closed_walk(look.last)[1]
    if row is not None:
        raise Misleads(row)
    found = {}
    for standing in look.closed_walk(())[0]:
        for names, _ in standing:
            for at, name in enumerate(names):
                for other in names[at + 1:]:
                    found[(name, other)] = True
    return sorted(found)
