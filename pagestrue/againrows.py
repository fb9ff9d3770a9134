"""Rows of runs that bring what is wished for, and when it is lost."""

from pagestrue.topruns import are_runs, judged_runs
from pagestrue.viewlooks import Quest, bringing


def found_row(quest, look, view):
    """The least of the shortest rows that bring it from this view, None without one."""
    return bringing(look, view, quest.places)[1]


def come_again(page, web, stand, wished):
    """The first row that brings what is wished for, or all views that come."""
    quest = Quest(page, web, stand, wished)
    views, row = bringing(quest.look, quest.start, quest.places)
    if row is not None:
        return ("again", row)
    return ("never", sorted([quest.look.told(view) for view in views]))


def is_again(page, web, stand, wished, thing):
    """Whether it is a row that brings what is wished for."""
    quest = Quest(page, web, stand, wished)
    return are_runs(quest.forms, thing) and quest.look.has_wished(quest.along(thing)[-1])


def fewest_runs(page, web, stand, wished):
    """The dict from each name to the fewest runs that bring it alone, None where none do."""
    quest = Quest(page, web, stand, wished)
    told = {}
    for name in sorted(wished):
        look = quest.look_for({name: wished[name]})
        row = found_row(quest, look, look.view_of(stand))
        told[name] = None if row is None else len(row)
    return told


def first_loss(page, web, stand, wished, runs):
    """How many runs are done when it is first lost, None if it never is."""
    quest = Quest(page, web, stand, wished)
    views = quest.along(judged_runs(quest.forms, runs))
    if found_row(quest, quest.look, views[-1]) is not None:
        return None
    # What is lost once is lost for ever: so the first loss is found by halves.
    low = 0
    high = len(views) - 1
    while low < high:
        middle = (low + high) // 2
        if found_row(quest, quest.look, views[middle]) is None:
            high = middle
        else:
            low = middle + 1
    return low
