"""Saved pages: which histories bear what was seen, or why none does."""

from pagestrue.pastlooks import all_histories, judged_past
from pagestrue.valuelooks import judged_values
from pagestrue.words import is_list


def judged_saved(page, numbers, values):
    """The look at a page's numbers, and that at the values seen."""
    look = judged_past(page, numbers)
    return (look, judged_values(look, values))


def bearing_of(look, seen):
    """The ascending list of the histories that bear the values."""
    return [history for history in all_histories(look) if seen.clash(history) is None]


def bearing(page, numbers, values):
    """The ascending list of all histories that bear the values."""
    look, seen = judged_saved(page, numbers, values)
    return bearing_of(look, seen)


def sure_runs(page, numbers, values):
    """The dict from the lacking numbers at which one cell ran in all these histories to this cell."""
    look, seen = judged_saved(page, numbers, values)
    found = bearing_of(look, seen)
    told = {}
    for number in look.gaps():
        places = [history[number - 1] for history in found]
        if places and places == places[:1] * len(places):
            told[number] = places[0]
    return told


def saved(page, numbers, values):
    """The least history that bears the values, or for each one why it does not."""
    look, seen = judged_saved(page, numbers, values)
    why = []
    for history in all_histories(look):
        clash = seen.clash(history)
        if clash is None:
            return ("borne", history)
        why.append((history, clash))
    return ("none", why)


def is_none_certificate(page, numbers, values, thing):
    """Whether it is a list of beginnings, one of each history, and of things that clash in them."""
    look, seen = judged_saved(page, numbers, values)
    if not is_list(thing) or not all([is_clash(look, seen, one) for one in thing]):
        return False
    beginnings = [list(one[0]) for one in thing]
    for at, one in enumerate(beginnings):
        for place, other in enumerate(beginnings):
            if at != place and one == other[:len(one)]:
                return False
    # No history begins with two of them: so each begins with one if as many do as there are.
    return sum([many_endings(look, len(one)) for one in beginnings]) == many_endings(look, 0)


def many_endings(look, many):
    """How many histories begin with one beginning of so many runs."""
    told = 1
    for places in look.all_runners()[many:]:
        told *= len(places)
    return told


def is_clash(look, seen, thing):
    """Whether it is a pair of a beginning and two things that clash in it."""
    if not is_list(thing) or len(thing) != 2 or not look.begins_history(thing[0], []):
        return False
    pair = thing[1]
    if not is_list(pair) or len(pair) != 2 or not all([seen.is_thing(one) for one in pair]):
        return False
    one, other = [tuple(its) for its in pair]
    rows, parts = seen.history_parts(thing[0])
    if one not in parts or other not in parts or seen.value_of[one] == seen.value_of[other]:
        return False
    lots = seen.lots_of(rows, parts)
    return lots[one] == lots[other]
