"""Cells that are always ahead of others, and cells that are moved."""

from pagestrue.cellorders import first_break, judged_cell_order
from pagestrue.errors import BadPlace
from pagestrue.orderlooks import OrderLook
from pagestrue.refusals import BadPair
from pagestrue.topruns import plain_forms
from pagestrue.words import is_place


def always_ahead(page):
    """The ascending list of the pairs of cells of which one is ahead of the other in all good orders."""
    forms = plain_forms(page)
    turned = {}
    for lot in OrderLook(forms, None, None).good_lots():
        for one in range(len(forms)):
            for other in range(len(forms)):
                # Amid this order the other one is done, and the one is still to come.
                if lot[other] and not lot[one]:
                    turned[(one, other)] = True
    places = list(range(len(forms)))
    return [(one, other) for one in places for other in places if one != other and (one, other) not in turned]


def turned_order(page, one, other):
    """A good order in which the other cell stands ahead of the one, None if there is none."""
    forms = plain_forms(page)
    if not is_place(one, len(forms)) or not is_place(other, len(forms)) or one == other:
        raise BadPair(one, other)
    look = OrderLook(forms, one, other)
    return look.kth(0) if look.all_ways() > 0 else None


def moved(many, place, to):
    """The order of so many cells in which one is taken out and put in there."""
    others = [one for one in range(many) if one != place]
    return others[:to] + [place] + others[to:]


def move_lets(page, place):
    """The ascending list of the places to which this cell alone may be moved."""
    forms = plain_forms(page)
    if not is_place(place, len(forms)):
        raise BadPlace(place)
    look = OrderLook(forms, None, None)
    many = len(forms)
    return [to for to in range(many) if first_break(look, moved(many, place, to)) is None]


def fewest_moves(page, order):
    """With how few moves the cells come into this order."""
    judged_cell_order(plain_forms(page), order)
    longest = []
    for at, place in enumerate(order):
        ahead = [many for many, other in zip(longest, order[:at]) if other < place]
        longest.append(1 + max(ahead, default=0))
    return len(order) - max(longest, default=0)
