"""A page with its numbers: who can have run when, and what such histories show."""

from pagestrue.cellruns import run_cell
from pagestrue.errors import BadHistory, BadNumbers, BadStrangers
from pagestrue.pages import ifless_forms, names_of
from pagestrue.words import first_unrisen, is_list, is_number, is_place


class PastLook:
    """The cells of a page, and their numbers: who can have run when.

    Nothing is listed ahead of need: what is to be refused may stand beside numbers however great.
    """

    def __init__(self, forms, names, numbers):
        self.forms = forms
        self.names = names
        self.lasts = list(numbers)
        self.many = max(self.lasts, default=0)

    def who_can(self, number):
        """The places of the cells that can have run at the number."""
        if number in self.lasts:
            return [self.lasts.index(number)]
        return [place for place, last in enumerate(self.lasts) if last > number]

    def all_runners(self):
        """For each number from 1 on the places of the cells that can have run there."""
        return [self.who_can(number) for number in range(1, self.many + 1)]

    def is_gap(self, number):
        """Whether it is a lacking number."""
        return 0 < number < self.many and number not in self.lasts

    def gaps(self):
        """The ascending list of the lacking numbers."""
        return [number for number in range(1, self.many) if self.is_gap(number)]

    def any_beginning(self, many):
        """Some history's beginning of so many runs: the least one."""
        return [self.who_can(number)[0] for number in range(1, many + 1)]

    def any_ending(self, many):
        """Who can have run behind so many runs, up to the last one."""
        return [self.who_can(number)[0] for number in range(many + 1, self.many + 1)]

    def starting(self, table):
        """What stands ahead of the first run: each name for a part of its own."""
        return self.given_from(table, 0)

    def given_from(self, table, first):
        """A stand of given rows, one for each name, numbered from first on."""
        return {name: table.put_in(("given", first + at)) for at, name in enumerate(self.names)}

    def run_at(self, table, stand, number, place):
        """What stands behind a run at the number, of a stranger if place is None, and what it shows."""
        if place is None:
            return (self.given_from(table, number * len(self.names)), [])
        return run_cell(table, stand, self.forms[place])[:2]

    def shown_along(self, table, history):
        """The stand behind the beginning of a history, and for each cell what its last run shows.

        That is None for a cell whose number does not stand within the beginning.
        """
        stand = self.starting(table)
        shown = [None] * len(self.forms)
        for at, place in enumerate(history):
            stand, told = self.run_at(table, stand, at + 1, place)
            if place is not None and self.lasts[place] == at + 1:
                shown[place] = told
        return (stand, shown)

    def begins_history(self, thing, strangers):
        """Whether it is a list with which a history begins, strangers standing at these numbers."""
        if not is_list(thing) or len(thing) > self.many:
            return False
        return all([self.may_run(at + 1, one, strangers) for at, one in enumerate(thing)])

    def may_run(self, number, thing, strangers):
        """Whether it is who can have run at the number."""
        if thing is None:
            return number in strangers
        return is_place(thing, len(self.forms)) and thing in self.who_can(number)

    def is_whole(self, thing, strangers):
        """Whether it is a history, strangers standing at these numbers."""
        return self.begins_history(thing, strangers) and len(thing) == self.many


def numbers_fault(forms, thing):
    """The index of the first thing of what are no numbers of the cells, None without one."""
    if not is_list(thing):
        return 0
    met = {}
    for at, one in enumerate(thing):
        if not is_number(one) or one in met:
            return at
        if one > 0:
            met[one] = True
    return None if len(thing) == len(forms) else len(forms)


def judged_past(page, numbers):
    """The look at the page by its numbers."""
    return past_of(ifless_forms(page), page, numbers)


def past_of(forms, page, numbers):
    """The look at a page that is judged, with these cells."""
    wrong = numbers_fault(forms, numbers)
    if wrong is not None:
        raise BadNumbers(wrong)
    return PastLook(forms, names_of(page)[0], numbers)


def lacking_fault(look, thing):
    """The index of the first thing of what is no ascending list of lacking numbers, or None."""
    if not is_list(thing):
        return 0
    return first_unrisen([one if is_number(one) and look.is_gap(one) else None for one in thing])


def judged_strangers(look, strangers):
    """The lacking numbers at which perhaps a stranger ran."""
    wrong = lacking_fault(look, strangers)
    if wrong is not None:
        raise BadStrangers(wrong)
    return strangers


def judged_history(look, strangers, history):
    """A history with strangers."""
    if not look.is_whole(history, strangers):
        raise BadHistory(history)
    return history


def all_histories(look):
    """The ascending list of all histories without strangers."""
    told = [[]]
    for places in look.all_runners():
        told = [beginning + [place] for beginning in told for place in places]
    return told


def shown_part(look, table, history, place, at):
    """The part of the thing that the cell's last run shows in the history."""
    return look.shown_along(table, history)[1][place][at]
