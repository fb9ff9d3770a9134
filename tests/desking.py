"""A desk done plainly: the row of its deeds is kept, and done from the first one each time."""

from tests.plain import is_missed, over_worlds, plain_row, plain_run


class Replayed:
    """What comes of a row of deeds, on terms."""

    def __init__(self, deeds, ask):
        self.cards = []
        self.restart()
        for deed in deeds:
            getattr(self, deed[0])(*deed[1:])
            if deed[0] == "run":
                self.do_run(deed[1], ask)

    def at(self, tag):
        return [card[0] for card in self.cards].index(tag)

    def put(self, place, cell, tag):
        self.cards.insert(place, (tag, cell))

    def edit(self, tag, cell):
        self.cards[self.at(tag)] = (tag, cell)
        self.forget(tag)

    def move(self, tag, place):
        self.cards.insert(place, self.cards.pop(self.at(tag)))

    def drop(self, tag):
        self.cards.pop(self.at(tag))
        self.forget(tag)

    def forget(self, tag):
        self.edited.add(tag)
        self.leavers = {name: None if who == tag else who for name, who in self.leavers.items()}

    def restart(self):
        self.values, self.shown, self.numbers, self.leavers, self.edited, self.many = {}, {}, {}, {}, set(), 0

    def run(self, tag):
        self.many += 1
        self.numbers[tag] = self.many
        self.edited.discard(tag)

    def do_run(self, tag, ask):
        self.values, self.shown[tag], left = plain_run(dict(self.cards)[tag], self.values, ask)
        for name in left:
            self.leavers[name] = tag

    def counted(self):
        return [0 if tag in self.edited else self.numbers.get(tag, 0) for tag, _ in self.cards]

    def top(self, ask):
        told, _ = plain_row([cell for _, cell in self.cards], range(len(self.cards)), {}, ask)
        return {tag: one for (tag, _), one in zip(self.cards, told)}


class PlainDesk:
    """Deeds done, and deeds that were taken back."""

    def __init__(self):
        self.deeds = []
        self.undone = []
        self.tags_given = 0

    def now(self):
        return Replayed(self.deeds, lambda test, terms: False)

    def do(self, *deed):
        """Do a deed of right parameters; a run that misses is none."""
        if deed[0] == "put":
            deed += (self.tags_given,)
            self.tags_given += 1
        if deed[0] == "run":
            now = self.now()
            if is_missed(dict(now.cards)[deed[1]], now.values):
                return None
        self.deeds.append(deed)
        self.undone = []
        return deed

    def undo(self):
        if not self.deeds:
            return None
        self.undone.append(self.deeds.pop())
        return self.undone[-1][0]

    def redo(self):
        if not self.undone:
            return None
        self.deeds.append(self.undone.pop())
        return self.deeds[-1][0]

    def first_miss(self):
        cells = [cell for _, cell in self.now().cards]
        told, _ = plain_row(cells, range(len(cells)), {}, lambda test, terms: False)
        return told.index(None) if None in told else None

    def judged(self):
        """For each cell its word, in all worlds."""
        def act(ask):
            state = Replayed(self.deeds, ask)
            top = state.top(ask)
            return [top[tag][0] == state.shown.get(tag) for tag, _ in state.cards]
        worlds = over_worlds(act)
        now = self.now()
        told = []
        for at, (tag, _) in enumerate(now.cards):
            if tag not in now.shown:
                told.append("none")
            elif tag in now.edited:
                told.append("gone")
            else:
                told.append("true" if all(world[at] for world in worlds) else "untrue")
        return told

    def left(self):
        """For each name that stands its word, in all worlds."""
        def act(ask):
            state = Replayed(self.deeds, ask)
            top = state.top(ask)
            return {name: who is not None and top[who][1][name] == state.values[name]
                    for name, who in state.leavers.items()}
        worlds = over_worlds(act)
        told = {}
        for name, who in self.now().leavers.items():
            right = all(world[name] for world in worlds)
            told[name] = "gone" if who is None else "true" if right else "untrue"
        return told
