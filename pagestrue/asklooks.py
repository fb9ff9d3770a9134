"""At which lacking numbers it counts who ran there.

Two histories by which unlike parts are shown lead to one another number by number: so at some
number alone the part shown changes. All such numbers have to be asked, and they are enough, unless
something shown needs a given row: of that no history knows what it was.
"""

from pagestrue.passwalks import known_run
from pagestrue.pastdoubts import FlowLook
from pagestrue.rowtables import RowTable


class AskLook:
    """Which names flow on into what is shown, and where they can be unlike."""

    def __init__(self, look):
        self.look = look
        self.flows = FlowLook(look)
        self.live = self.live_names()

    def shown_sources(self, number):
        """The names, ahead of the number, of which what counts as shown there is made."""
        return [name for place in self.look.runners[number - 1] if self.look.numbers[place] == number
                for names in self.flows.shown_from[place] for name in names]

    def live_names(self):
        """Behind each number the ascending list of the names that can come into something shown later."""
        told = [[]]
        for number in range(self.look.many, 0, -1):
            found = self.shown_sources(number)
            for place in self.look.runners[number - 1]:
                for name in told[-1]:
                    found.extend(self.flows.left_from[place][name])
            told.append(sorted(set(found)))
        return told[::-1]

    def can_show_given(self):
        """Whether in some history something shown needs a given row."""
        given = {name: True for name in self.look.names}
        for number in range(1, self.look.many + 1):
            if any([name in given for name in self.shown_sources(number)]):
                return True
            behind = {}
            for place in self.look.runners[number - 1]:
                for name, sources in self.flows.left_from[place].items():
                    if any([source in given for source in sources]):
                        behind[name] = True
            given = behind
        return False

    def asked(self):
        """The ascending list of the lacking numbers at which it counts who ran there."""
        table = RowTable([])
        start = self.look.starting(table)
        states = [tuple([start[name] for name in self.live[0]])]
        found = []
        for number in range(1, self.look.many + 1):
            behind = {}
            for state in states:
                told = self.told_behind(table, number, state)
                if told != told[:1] * len(told) and number not in found:
                    found.append(number)
                for one in told:
                    behind[one] = True
            states = list(behind)
        return found

    def told_behind(self, table, number, state):
        """What the live names stand for behind each cell's run at the number."""
        stand = {name: None for name in self.look.names}
        for name, part in zip(self.live[number - 1], state):
            stand[name] = part
        told = []
        for place in self.look.runners[number - 1]:
            now = known_run(table, stand, self.look.forms[place])[0]
            told.append(tuple([now[name] for name in self.live[number]]))
        return told


def enough_numbers(look):
    """The list of the numbers that all lots that are enough have, None if none is enough."""
    asking = AskLook(look)
    return None if asking.can_show_given() else asking.asked()
