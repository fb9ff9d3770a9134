"""Which cells are enough to bring what is wished for, and which are needed."""

from pagestrue.leastlots import least_lots
from pagestrue.viewlooks import Quest, bringing


def brings(quest, places):
    """Whether some row of runs of these cells alone brings what is wished for."""
    return bringing(quest.look, quest.start, places)[1] is not None


def lots_enough(quest):
    """The least lots of cells that suffice."""
    if not brings(quest, quest.places):
        return []
    return least_lots(len(quest.places), lambda lot: brings(quest, lot))


def enough_lots(page, web, stand, wished):
    """The ascending list of the least lots of cells that suffice."""
    return lots_enough(Quest(page, web, stand, wished))


def needed_lots(page, web, stand, wished):
    """The ascending list of the least lots without which no other cells suffice."""
    quest = Quest(page, web, stand, wished)
    enough = lots_enough(quest)
    return least_lots(len(quest.places), lambda lot: meets_all(lot, enough))


def meets_all(lot, lots):
    """Whether it has something of each of the lots."""
    return all([any([place in lot for place in one]) for one in lots])
