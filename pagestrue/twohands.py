"""Plans for two hands with the fewest rounds, and the lots of rows that ask for so many."""

from pagestrue.handlooks import HandLook
from pagestrue.refusals import BadLots
from pagestrue.rowtables import cone_of
from pagestrue.scripts import judged_wanted
from pagestrue.words import is_list, risen_places


def judged_hands(web, wanted):
    """The look at the wanted rows."""
    rows = judged_wanted(web, wanted)
    return HandLook(rows, cone_of(rows, wanted))


def two_plan(web, wanted):
    """A plan for two hands with the fewest rounds."""
    return [sorted(one) for one in judged_hands(web, wanted).rounds()]


def two_rounds(web, wanted):
    """With how few rounds two hands make the wanted rows."""
    return len(two_plan(web, wanted))


def are_lots(look, thing):
    """Whether it is a list of lots of which each row hangs on each one of the lot ahead."""
    if not is_list(thing) or not all([is_lot(look, one) for one in thing]):
        return False
    return all([look.hang_all(lot, ahead) for ahead, lot in zip(thing[:-1], thing[1:])])


def is_lot(look, thing):
    """Whether it is an ascending list of some needed rows."""
    if risen_places(thing, len(look.rows)) is not None or len(thing) == 0:
        return False
    return all([at in look.below for at in thing])


def bound_of(lots):
    """The sum of half of how many rows each lot has, upward."""
    return sum([(len(lot) + 1) // 2 for lot in lots])


def is_lots(web, wanted, thing):
    """Whether it is a row of lots."""
    return are_lots(judged_hands(web, wanted), thing)


def lots_bound(web, wanted, lots):
    """With how few rounds two hands never do, by these lots."""
    if not are_lots(judged_hands(web, wanted), lots):
        raise BadLots(lots)
    return bound_of(lots)


def lots_certificate(web, wanted):
    """A row of lots whose bound is how many rounds the best plan for two hands has."""
    return judged_hands(web, wanted).best_lots()
