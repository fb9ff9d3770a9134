"""The shortest row that misleads, and the least lots of cells without which none does."""

from pagestrue.leastlots import least_lots
from pagestrue.toplooks import TopLook, closed_walk
from pagestrue.topruns import miss_of, sound_forms
from pagestrue.twobehind import row_behind


def first_untrue(page):
    """The shortest row from nothing that ends untrue, of these the least, None without one."""
    return closed_walk(TopLook(sound_forms(page)), {}, False, None)[1]


def left_out(page):
    """The ascending list of the least lots without which the page never misleads."""
    forms = sound_forms(page)
    return least_lots(len(forms), lambda lot: is_true_without(forms, lot))


def is_true_without(forms, lot):
    """Whether the cells without these are a sound page that never misleads."""
    others = [form for place, form in enumerate(forms) if place not in lot]
    return miss_of(others, {}) is None and row_behind(others) is None
