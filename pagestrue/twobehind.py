"""Short rows behind the run from the top, which tell of all rows."""

from pagestrue.cellforms import has_if
from pagestrue.toplooks import TopLook, closed_walk
from pagestrue.topruns import plain_forms, sound_forms


def untrue_pair(page):
    """None if all runs of one and of two cells behind the top are true, else the least list."""
    forms = plain_forms(page)
    look = TopLook(forms)
    for first in range(len(forms)):
        if look.untrue(first, look.last) is not None:
            return [first]
        behind = look.owned(first, look.last)
        for second in range(len(forms)):
            if look.untrue(second, behind) is not None:
                return [first, second]
    return None


def untrue_row(page):
    """The shortest row behind the top that ends untrue, of these the least, None without one."""
    return row_behind(sound_forms(page))


def row_behind(forms):
    """The same of a sound page's cells.

    A shortest row has no cell twice but at its end: without the first one of the two it would
    leave the same owners. So all rows are tried, up to the length beyond which none is needed.
    """
    look = TopLook(forms)
    longest = 2
    if any([has_if(form) for form in forms]):
        # Names that are read together may tell what none of them tells alone.
        longest = max([2] + [len(names) + 1 for names in look.reads])
    return closed_walk(look, look.last, False, longest)[1]


def safe_names(page):
    """The ascending list of the names that all who set them leave alike in the top."""
    look = TopLook(sound_forms(page))
    return [name for name in look.last if is_safe(look, name)]


def is_safe(look, name):
    """Whether all cells that set the name leave alike parts there in the top."""
    parts = [left[name] for left in look.lefts if name in left]
    return all([look.likeness.alike(parts[0], part) for part in parts])
