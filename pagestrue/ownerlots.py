"""Closed lots of owners: what stands behind all rows, however long, or a row that misleads."""

from pagestrue.toplooks import TopLook, closed_walk, pairs_of
from pagestrue.topruns import sound_forms
from pagestrue.words import is_list, is_name, is_place


def stop_lot(page):
    """All owners behind rows of runs that may stop, or the first row that ends untrue."""
    return lot_or_row(TopLook(sound_forms(page)), True)


def whole_lot(page):
    """All owners behind rows of whole runs, or the first row that ends untrue."""
    return lot_or_row(TopLook(sound_forms(page)), False)


def lot_or_row(look, may_stop):
    """The closed lot of the cells that are looked at, or the row."""
    known, row = closed_walk(look, {}, may_stop, None)
    if row is not None:
        return ("row", row)
    return ("closed", [dict(pairs) for pairs in sorted(known)])


def is_stop_lot(page, thing):
    """Whether it is a closed lot of owners, for runs that may stop."""
    return closed_by(TopLook(sound_forms(page)), thing, True)


def is_whole_lot(page, thing):
    """Whether it is a closed lot of owners, for whole runs."""
    return closed_by(TopLook(sound_forms(page)), thing, False)


def closed_by(look, thing, may_stop):
    """Whether all runs on each of the owners are true and lead to some of them."""
    if not is_list(thing) or not all([are_owners(look, one) for one in thing]):
        return False
    known = {pairs_of(one): True for one in thing}
    if () not in known:
        return False
    for pairs in known:
        owners = dict(pairs)
        for place in range(len(look.forms)):
            if may_stop or not look.misses(place, owners):
                if look.untrue(place, owners) is not None:
                    return False
                if pairs_of(look.owned(place, owners)) not in known:
                    return False
    return True


def are_owners(look, thing):
    """Whether it is a dict from names to cells that set them."""
    if not isinstance(thing, dict):
        return False
    return all([is_owner(look, name, thing[name]) for name in thing])


def is_owner(look, name, place):
    """Whether it is the place of a cell that sets the name."""
    return is_name(name) and is_place(place, len(look.lefts)) and name in look.lefts[place]
