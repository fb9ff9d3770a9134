"""A page that is edited to another one: which cells are touched, which surely are not, what is to be run anew."""

from pagestrue.cellforms import names_read, names_set
from pagestrue.mendlooks import MendLook
from pagestrue.pages import Page
from pagestrue.refusals import BadOtherPage
from pagestrue.topruns import miss_of, run_top, sound_forms


def judged_edit(page, other):
    """The cells of both pages, as tuples."""
    forms = sound_forms(page)
    if not isinstance(other, Page) or len(other.forms) != len(forms) or miss_of(other.forms, {}) is not None:
        raise BadOtherPage(other)
    return (forms, other.forms)


def edit_state(forms, its_forms):
    """The look at the other page, and its state where the first one was run from the top."""
    look = MendLook(its_forms, forms)
    showns, lefts, stand = run_top(look.table, {}, forms)
    return (look, look.state_of(stand, list(zip(showns, lefts))))


def touched(page, other):
    """The ascending list of the cells that do not show and leave alike things in both pages."""
    forms, its_forms = judged_edit(page, other)
    fresh = edit_state(forms, its_forms)[1][1]
    return [place for place, is_fresh in enumerate(fresh) if not is_fresh]


def leavers_ahead(forms):
    """For each cell the dict from the names that it reads from ahead to the cell that left each last."""
    last = {}
    told = []
    for place, form in enumerate(forms):
        told.append({name: last[name] for name in names_read(form)})
        for name in names_set(form):
            last[name] = place
    return told


def sure(page, other):
    """The greatest lot of cells with like text that read but what cells of the lot left, in both pages."""
    forms, its_forms = judged_edit(page, other)
    leavers = leavers_ahead(forms)
    its_leavers = leavers_ahead(its_forms)
    lot = []
    # Whoever left a name ahead is judged already.
    for place in range(len(forms)):
        is_like = forms[place] == its_forms[place] and leavers[place] == its_leavers[place]
        if is_like and all([leaver in lot for leaver in leavers[place].values()]):
            lot.append(place)
    return lot


def anew(page, other):
    """The least of the shortest rows of runs of the other page's cells behind which all is as from its top."""
    forms, its_forms = judged_edit(page, other)
    look, state = edit_state(forms, its_forms)
    return look.mending_row(state)
