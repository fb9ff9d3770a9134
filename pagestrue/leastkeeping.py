"""The cheapest plan, the flow that no plan is below, and what it is worth to have rows at hand."""

from itertools import combinations

from pagestrue.keepnets import KeepNet
from pagestrue.keepplans import Keeping
from pagestrue.refusals import BadIndex, BadPrice
from pagestrue.rowtables import cone_of
from pagestrue.words import is_number, is_place


def net_of(keeping, loading):
    """The net of what is kept, with these prices to load."""
    return KeepNet(keeping.rows, keeping.making, loading, keeping.wanted_rows)


def least_keeping(web, making, loading, wanted):
    """The least price, the plan of it that has and makes least, and a flow with this sum."""
    keeping = Keeping(web, making, loading, wanted)
    net = net_of(keeping, keeping.loading)
    return (net.least_price(), net.least_plan(), net.taken_ways())


def price_with(keeping, places, price):
    """The least price if these rows have this price to load, None for not lying on the shelf."""
    loading = [price if at in places else old for at, old in enumerate(keeping.loading)]
    return net_of(keeping, loading).least_price()


def shelf_worth(web, making, loading, wanted, index):
    """How much less is paid if the row lies on the shelf for nothing than if it does not lie there."""
    keeping = Keeping(web, making, loading, wanted)
    if not is_place(index, len(keeping.rows)):
        raise BadIndex(index)
    return price_with(keeping, [index], None) - price_with(keeping, [index], 0)


def fewest_at_hand(web, making, loading, wanted, price):
    """The fewest rows, of these the first, with which on the shelf for nothing this price suffices."""
    keeping = Keeping(web, making, loading, wanted)
    if not is_number(price):
        raise BadPrice(price)
    # A row on which nothing wanted hangs never helps.
    hung_on = cone_of(keeping.rows, keeping.wanted_rows)
    many = 0
    found = None
    # All wanted rows for nothing cost nothing, so this comes to an end.
    while found is None:
        found = first_lot(keeping, hung_on, many, price)
        many += 1
    return found


def first_lot(keeping, rows, many, price):
    """The first lot of so many of the rows with which this price suffices, None without one."""
    for lot in combinations(rows, many):
        if price_with(keeping, lot, 0) <= price:
            return list(lot)
    return None
