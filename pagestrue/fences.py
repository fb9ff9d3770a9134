"""Fences: turns that are kept together, and the fewest by which no order strays."""

from pagestrue.leastlots import least_lots
from pagestrue.ordercounts import order_count
from pagestrue.refusals import BadFences
from pagestrue.weavelooks import judged_order, judged_weave, places_along
from pagestrue.words import are_numbers, first_unrisen, is_list


def fence_form(forms, thing):
    """The pair of a cell's place and the index of a statement of it, not its last one, else None."""
    if not is_list(thing) or len(thing) != 2 or not are_numbers(thing) or thing[0] >= len(forms):
        return None
    return tuple(thing) if thing[1] + 1 < len(forms[thing[0]]) else None


def judged_fences(look, fences):
    """The fences as pairs."""
    pairs = [fence_form(look.forms, one) for one in fences] if is_list(fences) else [None]
    wrong = first_unrisen(pairs)
    if wrong is not None:
        raise BadFences(wrong)
    return pairs


def keeps_fences(page, hands, order, fences):
    """Whether behind a fence no other hand's turn comes."""
    look = judged_weave(page, hands)
    judged_order(look, hands, order)
    pairs = judged_fences(look, fences)
    places = places_along(look, hands, order)
    return all([order[at] == order[at + 1] for at, place in enumerate(places[:-1]) if place in pairs])


def fenced_counts(page, hands, fences):
    """How many whole orders keep the fences, and how many of these stray."""
    look = judged_weave(page, hands)
    return order_count(look, hands, judged_fences(look, fences)).counts()


def least_fences(page, hands):
    """The ascending list of the least lists of fences by which no whole order strays."""
    look = judged_weave(page, hands)
    cells = sorted(set([cell for hand in hands for cell in hand]))
    pairs = [(cell, at) for cell in cells for at in range(len(look.forms[cell]) - 1)]
    if order_count(look, hands, pairs).can_stray():
        return []
    lots = least_lots(len(pairs), lambda lot: is_kept_by(look, hands, picked(pairs, lot)))
    return [picked(pairs, lot) for lot in lots]


def picked(pairs, lot):
    """The pairs at these places."""
    return [pairs[at] for at in lot]


def is_kept_by(look, hands, fences):
    """Whether no whole order that keeps the fences strays."""
    return not order_count(look, hands, fences).can_stray()
