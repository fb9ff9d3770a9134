"""Plans in rounds: what is made at once by so many hands."""

from pagestrue.refusals import BadHandCount
from pagestrue.rowtables import cone_of
from pagestrue.scripts import judged_wanted
from pagestrue.words import is_list, is_number, risen_places


def is_plan(web, wanted, hands, thing):
    """Whether it is a plan for the wanted rows and so many hands."""
    rows = judged_wanted(web, wanted)
    if not is_number(hands) or hands == 0:
        raise BadHandCount(hands)
    if not is_list(thing) or not all([is_round(rows, hands, one) for one in thing]):
        return False
    done = {}
    for one in thing:
        # What is made in this round is not had ahead of it.
        if not all([at not in done and is_ready(rows, done, at) for at in one]):
            return False
        for at in one:
            done[at] = True
    return sorted(done) == cone_of(rows, wanted)


def is_round(rows, hands, thing):
    """Whether it is an ascending list of some rows, at most as many as there are hands."""
    return risen_places(thing, len(rows)) is None and 0 < len(thing) <= hands


def is_ready(rows, done, at):
    """Whether all needs of the row are made."""
    return all([need in done for need in rows[at][2]])


def depth_plan(web, wanted):
    """The plan in which each row stands in the first round that is possible."""
    rows = judged_wanted(web, wanted)
    rounds = {}
    told = []
    for at in cone_of(rows, wanted):
        rounds[at] = max([rounds[need] + 1 for need in rows[at][2]], default=0)
        if rounds[at] == len(told):
            told.append([])
        told[rounds[at]].append(at)
    return told
