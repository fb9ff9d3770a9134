"""Steady pages: no order of whatever hands strays; else two hands with one cell each show it."""

from pagestrue.topruns import plain_forms
from pagestrue.weavelooks import WeaveLook, hands_fault, order_fault
from pagestrue.words import is_list


def conflicts(page):
    """The ascending list of the names that are read, with the first two places that leave unlike parts."""
    return conflicts_of(WeaveLook(plain_forms(page)))


def conflicts_of(look):
    """The same of a page that is judged."""
    places = look.all_places()
    read = sorted(set([name for place in places for name in look.wants[place[0]][place[1]]]))
    found = [conflict_of(look, places, name) for name in read]
    return [one for one in found if one is not None]


def conflict_of(look, places, name):
    """The name with the first two places that leave unlike parts under it, None without any."""
    leaving = [place for place in places if look.leaves(place) == name]
    for place in leaving:
        if look.own_part(place) != look.own_part(leaving[0]):
            return (name, leaving[0], place)
    return None


def straying(page):
    """None for a steady page, else two hands and an order of which just the last turn strays."""
    look = WeaveLook(plain_forms(page))
    found = conflicts_of(look)
    if not found:
        return None
    name, one, other = found[0]
    reader = [place for place in look.all_places() if name in look.wants[place[0]][place[1]]][0]
    wanted = look.wants[reader[0]][reader[1]][name]
    leaver = one if look.own_part(one) != wanted else other
    hands = [[reader[0]], [leaver[0]]]
    order = [0] * reader[1] + [1] * (leaver[1] + 1) + [0]
    # Some turn ahead may stray already: what its hands read is what stood behind the top.
    return (hands, order[:look.stray(hands, order) + 1])


def is_straying(page, thing):
    """Whether it is a pair of hands and an order of which just the last turn strays."""
    look = WeaveLook(plain_forms(page))
    if not is_list(thing) or len(thing) != 2 or hands_fault(look.forms, thing[0]) is not None:
        return False
    if order_fault(look, thing[0], thing[1]) is not None:
        return False
    return look.stray(thing[0], thing[1]) == len(thing[1]) - 1
