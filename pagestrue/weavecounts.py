"""How many whole orders there are, how many stray, and each one of these."""

from pagestrue.ordercounts import order_count
from pagestrue.refusals import BadK
from pagestrue.weavelooks import judged_weave
from pagestrue.words import is_place


def woven_counts(page, hands):
    """How many whole orders there are, and how many of them stray."""
    return order_count(judged_weave(page, hands), hands, []).counts()


def kth_order(page, hands, k):
    """The k-th whole order that strays."""
    count = order_count(judged_weave(page, hands), hands, [])
    if not is_place(k, count.counts()[1]):
        raise BadK(k)
    return count.kth(k)
