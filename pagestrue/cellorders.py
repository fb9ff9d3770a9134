"""Orders of a page's cells in which each one does what it does in the run from the top."""

from pagestrue.errors import BadOrder
from pagestrue.orderlooks import OrderLook
from pagestrue.refusals import BadK
from pagestrue.topruns import plain_forms
from pagestrue.words import is_list, is_place


def judged_cell_order(forms, order):
    """An order of all the cells."""
    if not is_list(order):
        raise BadOrder(0)
    done = {}
    for at, place in enumerate(order):
        if not is_place(place, len(forms)) or place in done:
            raise BadOrder(at)
        done[place] = True
    if len(order) < len(forms):
        raise BadOrder(len(forms))
    return order


def first_break(look, order):
    """The first place in the order whose cell misses or does otherwise, and why, None without one."""
    stand = {}
    for at, place in enumerate(order):
        if not look.fits(place, stand):
            is_missing = any([name not in stand for name in look.wants[place]])
            return (at, "misses" if is_missing else "otherwise")
        stand.update(look.lefts[place])
    return None


def breaks_at(page, order):
    """None for a good order, else the place of its first cell that is not as from the top, and why."""
    forms = plain_forms(page)
    judged_cell_order(forms, order)
    return first_break(OrderLook(forms, None, None), order)


def orders_count(page):
    """How many good orders there are."""
    return OrderLook(plain_forms(page), None, None).all_ways()


def good_order(page, k):
    """The k-th good order."""
    look = OrderLook(plain_forms(page), None, None)
    if not is_place(k, look.all_ways()):
        raise BadK(k)
    return look.kth(k)
