"""The shortest row that misleads, and the least lots of cells without which none does."""

from itertools import combinations

from pagestrue.toplooks import TopLook, closed_walk
from pagestrue.topruns import miss_of, sound_forms
from pagestrue.twobehind import row_behind


def first_untrue(page):
    """The shortest row from nothing that ends untrue, of these the least, None without one."""
    return closed_walk(TopLook(sound_forms(page)), {}, False, None)[1]


def left_out(page):
    """The ascending list of the least lots without which the page never misleads."""
    forms = sound_forms(page)
    found = []
    for many in range(len(forms) + 1):
        for lot in combinations(range(len(forms)), many):
            if not has_within(found, lot) and is_true_without(forms, lot):
                found.append(list(lot))
    return sorted(found)


def has_within(lots, lot):
    """Whether one of the lots stands within this one."""
    return any([all([place in lot for place in least]) for least in lots])


def is_true_without(forms, lot):
    """Whether the cells without these are a sound page that never misleads."""
    others = [form for place, form in enumerate(forms) if place not in lot]
    return miss_of(others, {}) is None and row_behind(others) is None
