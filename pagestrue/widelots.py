"""Closed lots of owners of a wide page, or a row that misleads; what its cells look up."""

from pagestrue.errors import BadPlace
from pagestrue.ownerlots import closed_by, lot_or_row
from pagestrue.wideruns import sound_look
from pagestrue.words import is_place


def wide_lot(wide):
    """All owners behind rows of runs, or the first row that ends untrue."""
    return lot_or_row(sound_look(wide), False)


def is_wide_lot(wide, thing):
    """Whether it is a closed lot of owners of the wide page."""
    return closed_by(sound_look(wide), thing, False)


def looked_up(wide, place):
    """The ascending list of the names that the cell reads from ahead in the run from the top."""
    look = sound_look(wide)
    if not is_place(place, len(look.forms)):
        raise BadPlace(place)
    return look.looks[place]


def sure_names(wide):
    """The ascending list of the names that all cells that leave them leave alike in the top."""
    lefts = sound_look(wide).lefts
    names = sorted({name: True for left in lefts for name in left})
    return [name for name in names if is_sure([left[name] for left in lefts if name in left])]


def is_sure(worths):
    """Whether all of these are one row, or equal functions."""
    return all([worth == worths[0] for worth in worths])
