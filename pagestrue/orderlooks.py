"""Orders of a page's cells: what each cell reads from ahead and leaves in the run from the top.

A cell tells in an order what it does from the top just if each name that it reads from ahead stands
for the same part there. So a state is which cells are done, and which names stand for a part
that some cell, not done yet, reads there.
"""

from pagestrue.weavelooks import WeaveLook


class OrderLook:
    """Good orders of a page's cells; with a later cell, those in which the sooner one is ahead of it."""

    def __init__(self, forms, later, sooner):
        self.later = later
        self.sooner = sooner
        look = WeaveLook(forms)
        self.wants = [wanted_ahead(look, place) for place in range(len(forms))]
        self.lefts = [left_behind(look, place) for place in range(len(forms))]
        self.names = sorted({name: True for wants in self.wants for name in wants})
        self.memo = {}
        self.first = ((False,) * len(forms), (None,) * len(self.names))

    def fits(self, place, stand):
        """Whether all that the cell reads from ahead stands for the right parts."""
        wants = self.wants[place]
        return all([stand.get(name) == wants[name] for name in wants])

    def undone(self, state):
        """The cells that are not done."""
        return [place for place, is_done in enumerate(state[0]) if not is_done]

    def behind(self, state, place):
        """The state behind the cell, None if it can not come next in a good order."""
        if place == self.later and not state[0][self.sooner]:
            return None
        stand = dict(list(zip(self.names, state[1])))
        if not self.fits(place, stand):
            return None
        stand.update(self.lefts[place])
        done = state[0][:place] + (True,) + state[0][place + 1:]
        waiting = [self.wants[other] for other, is_done in enumerate(done) if not is_done]
        # What nobody reads any more there is all one.
        parts = [stand[name] if is_wanted(waiting, name, stand[name]) else None for name in self.names]
        return (done, tuple(parts))

    def ways(self, state):
        """In how many good orders the cells can be done that are left."""
        if state not in self.memo:
            left = self.undone(state)
            told = 0 if left else 1
            for place in left:
                behind = self.behind(state, place)
                if behind is not None:
                    told += self.ways(behind)
            self.memo[state] = told
        return self.memo[state]

    def all_ways(self):
        """How many good orders there are."""
        return self.ways(self.first)

    def kth(self, k):
        """The k-th good order."""
        told = []
        state = self.first
        left = k
        while self.undone(state):
            place, left = self.next_place(state, left)
            state = self.behind(state, place)
            told.append(place)
        return told

    def next_place(self, state, k):
        """The cell with which the k-th good order goes on, and the how manieth it is with it."""
        left = k
        for place in self.undone(state):
            behind = self.behind(state, place)
            many = 0 if behind is None else self.ways(behind)
            if left < many:
                return (place, left)
            left -= many
        return (None, left)

    def good_lots(self):
        """The lots of cells that are done amid some good order, each as a bool for each cell."""
        known = {self.first: True}
        todo = [self.first]
        while todo:
            state = todo.pop()
            for place in self.undone(state):
                behind = self.behind(state, place)
                if behind is not None and behind not in known and self.ways(behind) > 0:
                    known[behind] = True
                    todo.append(behind)
        return sorted(set([state[0] for state in list(known)]))


def wanted_ahead(look, place):
    """The dict from the names that the cell reads from ahead to their parts in the run from the top."""
    done = {}
    told = {}
    for at, wants in enumerate(look.wants[place]):
        for name in wants:
            if name not in done:
                told[name] = wants[name]
        done[look.leaves((place, at))] = True
    return told


def left_behind(look, place):
    """The dict from the names that the cell leaves to their parts in the run from the top."""
    told = {}
    for at in range(len(look.forms[place])):
        name = look.leaves((place, at))
        if name is not None:
            told[name] = look.own_part((place, at))
    return told


def is_wanted(waiting, name, part):
    """Whether some cell that is waiting reads just this part there."""
    return part is not None and any([wants.get(name) == part for wants in waiting])
