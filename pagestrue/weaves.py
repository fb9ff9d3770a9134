"""Hands that are woven: what their turns make, and where they stray."""

from pagestrue.cellruns import ascending
from pagestrue.weavelooks import judged_order, judged_weave


def woven(page, hands, order):
    """The web, and for each turn the part that its statement makes, copies or shows then."""
    look = judged_weave(page, hands)
    parts = look.woven(hands, judged_order(look, hands, order))[0]
    return (look.table.rows, parts)


def strays(page, hands, order):
    """The first turn at which this is not the statement's part, None if there is none."""
    look = judged_weave(page, hands)
    return look.stray(hands, judged_order(look, hands, order))


def stands_behind(page, hands, order):
    """What stands at the end of the order."""
    look = judged_weave(page, hands)
    return ascending(look.woven(hands, judged_order(look, hands, order))[1])
