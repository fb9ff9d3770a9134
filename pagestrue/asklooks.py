"""At which lacking numbers it counts who ran there.

Two histories by which unlike parts are shown lead to one another number by number: so at some
number alone the part shown changes. All such numbers have to be asked, and they are enough, unless
something shown needs a given row: of that no history knows what it was.
"""

from pagestrue.cellruns import run_cell
from pagestrue.likeness import pairs_left
from pagestrue.makings import given_table
from pagestrue.pastdoubts import FlowLook
from pagestrue.rowtables import cone_of, led_row


class AskLook:
    """Which names flow on into what is shown, and where they can be unlike."""

    def __init__(self, look):
        self.look = look
        self.runners = look.all_runners()
        self.flows = FlowLook(look)
        self.live = self.live_names()
        # A term is a row of this table: the part of a name told by what stood ahead, the given rows.
        self.table, stand = given_table(look.names)
        self.terms = [run_cell(self.table, stand, form)[0] for form in look.forms]
        self.memo = {}

    def shown_sources(self, number):
        """The names, ahead of the number, of which what counts as shown there is made."""
        return [name for place in self.runners[number - 1] if self.look.lasts[place] == number
                for names in self.flows.shown_from[place] for name in names]

    def live_names(self):
        """Behind each number the ascending list of the names that can come into something shown later."""
        told = [[]]
        for number in range(self.look.many, 0, -1):
            found = self.shown_sources(number)
            for place in self.runners[number - 1]:
                for name in told[-1]:
                    found.extend(self.flows.left_from[place][name])
            told.append(sorted(set(found)))
        return told[::-1]

    def can_show_given(self):
        """Whether in some history something shown needs a given row."""
        given = {name: True for name in self.look.names}
        for number in range(1, self.look.many + 1):
            if any([name in given for name in self.shown_sources(number)]):
                return True
            behind = {}
            for place in self.runners[number - 1]:
                for name, sources in self.flows.left_from[place].items():
                    if any([source in given for source in sources]):
                        behind[name] = True
            given = behind
        return False

    def asked(self):
        """The ascending list of the lacking numbers at which it counts who ran there."""
        return [number for number in self.look.gaps() if self.counts_who(number)]

    def counts_who(self, number):
        """Whether some live name can come to be unlike by who runs at the number."""
        for name in self.live[number]:
            terms = [self.terms[place][name] for place in self.runners[number - 1]]
            if not all([self.is_one(number - 1, terms[0], term) for term in terms[1:]]):
                return True
        return False

    def is_one(self, number, term, other):
        """Whether two terms of what stands behind the number are one part in all histories.

        What is asked goes back number by number, to who can have run there, up to where each name
        stands for a part of its own.
        """
        pairs = pairs_left(self.table.rows, term, other, "given")
        if not pairs or number == 0:
            return pairs == []
        for pair in pairs:
            key = (number, pair)
            if key not in self.memo:
                self.memo[key] = self.is_one_ahead(number, pair)
            if not self.memo[key]:
                return False
        return True

    def is_one_ahead(self, number, pair):
        """Whether the two are one, whoever ran at the number."""
        for place in self.runners[number - 1]:
            if not self.is_one(number - 1, self.led_back(pair[0], place), self.led_back(pair[1], place)):
                return False
        return True

    def led_back(self, term, place):
        """The term, of what stands behind a run of the cell, as one of what stood ahead of it."""
        rows = self.table.rows
        places = {}
        for at in cone_of(rows, [term]):
            if rows[at][0] == "given":
                places[at] = self.terms[place][self.look.names[rows[at][1]]]
            else:
                places[at] = self.table.put_in(led_row(rows[at], places))
        return places[term]


def enough_numbers(look):
    """The list of the numbers that all lots that are enough have, None if none is enough."""
    asking = AskLook(look)
    return None if asking.can_show_given() else asking.asked()
