"""Hands woven plainly: orders done on terms, all whole orders listed."""

from tests.making import maker, sound_cells
from tests.plain import do_all


def never(test, terms):
    raise AssertionError("no tests here")


class Weaving:
    """The cells of a sound page, and what each statement has for its part in the run from the top."""

    def __init__(self, cells):
        self.cells = cells
        self.values = {}
        self.own = {}
        for place, cell in enumerate(cells):
            for at, statement in enumerate(cell):
                self.own[(place, at)] = self.turn(self.values, statement)

    def turn(self, values, statement):
        """Do the statement, changing the values: the term that it makes, copies or shows."""
        shown = []
        do_all([statement], values, shown, never)
        return shown[0] if shown else values[statement[1]]

    def lines(self, hands):
        """For each hand the places of its statements."""
        return [[(cell, at) for cell in hand for at in range(len(self.cells[cell]))] for hand in hands]

    def along(self, hands, order):
        """The places of the statements, the terms of the turns, and the values at the end."""
        lines = self.lines(hands)
        values = dict(self.values)
        places, terms = [], []
        for hand in order:
            place = lines[hand].pop(0)
            places.append(place)
            terms.append(self.turn(values, self.cells[place[0]][place[1]]))
        return places, terms, values

    def stray(self, hands, order):
        """The first turn at which the term is not the statement's own one."""
        places, terms, _ = self.along(hands, order)
        wrong = [at for at, place in enumerate(places) if terms[at] != self.own[place]]
        return wrong[0] if wrong else None

    def whole_orders(self, hands):
        """All whole orders, ascending."""
        return list(orders_of([len(line) for line in self.lines(hands)]))

    def keeps(self, hands, order, fences):
        """Whether just behind a statement with a fence no other hand's turn comes."""
        places = self.along(hands, order)[0]
        return not any(place in fences and order[at] != order[at + 1] for at, place in enumerate(places[:-1]))


def orders_of(left):
    """All orders of so many turns of each hand."""
    if not any(left):
        yield []
    for hand, many in enumerate(left):
        if many:
            for order in orders_of([one - (at == hand) for at, one in enumerate(left)]):
                yield [hand] + order


def weaving_cells(seed, cells=3, many=3, values=2):
    """The cells of a sound page, without ifs, of names that are left by several cells."""
    return sound_cells(seed, cells=cells, many=many, values=values, calm=(0.1, 0.4, 0.7)[seed % 3])


def some_hands(seed, cells, hands, most_turns, weaving):
    """So many hands with some of the cells, with at most so many turns in all."""
    rng = maker(seed)
    told = [[] for _ in range(hands)]
    for _ in range(12):
        hand = rng.randrange(hands)
        told[hand].append(rng.randrange(cells))
        if sum(map(len, weaving.lines(told))) > most_turns:
            told[hand].pop()
    return told
