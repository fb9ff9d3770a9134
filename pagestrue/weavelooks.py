"""Several hands on one desk: statements of cells done in turns, behind one run from the top."""

from pagestrue.cellforms import read_first
from pagestrue.cellruns import do_statement
from pagestrue.errors import BadHands, BadOrder
from pagestrue.rowtables import RowTable
from pagestrue.topruns import are_runs, plain_forms
from pagestrue.words import first_wrong, is_list, is_place


class WeaveLook:
    """A page's run from the top, statement by statement: what each one reads there, and its part."""

    def __init__(self, forms):
        self.forms = forms
        self.table = RowTable([])
        self.stand = {}
        self.wants = []
        self.parts = []
        for form in forms:
            self.wants.append([])
            self.parts.append([])
            for statement in form:
                self.wants[-1].append({name: self.stand[name] for name in read_first(statement)})
                self.parts[-1].append(part_done(self.table, self.stand, statement))

    def turns(self, hand):
        """The places of the statements that a hand does."""
        return [(cell, at) for cell in hand for at in range(len(self.forms[cell]))]

    def all_places(self):
        """The places of all statements, ascending."""
        return self.turns(list(range(len(self.forms))))

    def statement(self, place):
        """The statement at the place."""
        return self.forms[place[0]][place[1]]

    def own_part(self, place):
        """The part that the statement at the place has in the run from the top."""
        return self.parts[place[0]][place[1]]

    def leaves(self, place):
        """The name that the statement at the place leaves, None for a show."""
        statement = self.statement(place)
        return None if statement[0] == "show" else statement[1]

    def woven(self, hands, order):
        """The parts of the turns, and the stand behind them."""
        stand = dict(self.stand)
        parts = []
        for place in places_along(self, hands, order):
            parts.append(part_done(self.table, stand, self.statement(place)))
        return (parts, stand)

    def stray(self, hands, order):
        """The first turn whose part is not its statement's, None without one."""
        parts = self.woven(hands, order)[0]
        places = places_along(self, hands, order)
        return first_wrong([part == self.own_part(place) for part, place in zip(parts, places)])


def part_done(table, stand, statement):
    """Do a statement, changing stand: the part that it makes, copies or shows."""
    shown = []
    do_statement(table, stand, statement, shown)
    return shown[0] if shown else stand[statement[1]]


def places_along(look, hands, order):
    """The place of the statement that is done in each turn."""
    lines = [look.turns(hand) for hand in hands]
    gone = [0] * len(hands)
    told = []
    for hand in order:
        told.append(lines[hand][gone[hand]])
        gone[hand] += 1
    return told


def judged_weave(page, hands):
    """The look at the page, of which hands do cells."""
    look = WeaveLook(plain_forms(page))
    wrong = hands_fault(look.forms, hands)
    if wrong is not None:
        raise BadHands(wrong)
    return look


def hands_fault(forms, thing):
    """The index of the first thing that is no list of cells' places, None without one."""
    if not is_list(thing):
        return 0
    return first_wrong([are_runs(forms, one) for one in thing])


def order_fault(look, hands, thing):
    """The index of the first thing that is no hand with something left to do, None without one."""
    if not is_list(thing):
        return 0
    left = [len(look.turns(hand)) for hand in hands]
    for at, hand in enumerate(thing):
        if not is_place(hand, len(hands)) or left[hand] == 0:
            return at
        left[hand] -= 1
    return None


def judged_order(look, hands, order):
    """An order of the hands' turns."""
    wrong = order_fault(look, hands, order)
    if wrong is not None:
        raise BadOrder(wrong)
    return order
