"""The numbers beside a page's cells, and the histories that fit them."""

from pagestrue.pages import ifless_forms
from pagestrue.pastlooks import all_histories, judged_history, judged_past, judged_strangers, numbers_fault
from pagestrue.rowtables import RowTable


def is_numbers(page, thing):
    """Whether these are numbers of the page."""
    return numbers_fault(ifless_forms(page), thing) is None


def lacking_numbers(page, numbers):
    """The dict from the numbers that no cell has to the places of those that can have run there."""
    look = judged_past(page, numbers)
    return {number: look.who_can(number) for number in look.gaps()}


def is_history(page, numbers, thing):
    """Whether it is a history of the numbers."""
    return judged_past(page, numbers).is_whole(thing, [])


def histories(page, numbers):
    """The ascending list of all histories."""
    return all_histories(judged_past(page, numbers))


def is_history_with(page, numbers, strangers, thing):
    """Whether it is a history, in which strangers may stand at these numbers."""
    look = judged_past(page, numbers)
    return look.is_whole(thing, judged_strangers(look, strangers))


def history_shown(page, numbers, strangers, history):
    """The web, the stand at the end, and for each cell what its last run shows."""
    look = judged_past(page, numbers)
    judged_history(look, judged_strangers(look, strangers), history)
    table = RowTable([])
    stand, shown = look.shown_along(table, history)
    return (table.rows, stand, shown)
