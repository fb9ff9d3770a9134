"""A sound page looked at from its top: what its cells tell on what cells of it left.

As long as all runs are true, what stands is alike, name by name, to what the owners, who left
each name last, leave in the run from the top: so runs are judged on that.
"""

from pagestrue.cellforms import names_read, names_set
from pagestrue.cellruns import go_cell, has_all
from pagestrue.likeness import Likeness, first_unlike
from pagestrue.rowtables import RowTable
from pagestrue.topruns import run_top


class TopLook:
    """The run from the top of a sound page, and runs of its cells on owners of names."""

    def __init__(self, forms):
        self.forms = forms
        self.table = RowTable([])
        self.showns, self.lefts, stand = run_top(self.table, {}, forms)
        self.likeness = Likeness(self.table)
        self.reads = [names_read(form) for form in forms]
        self.memo = {}
        self.last = self.owners_behind(stand)

    def owners_behind(self, stand):
        """Who left last, in the run from the top, what stands at its end."""
        owners = {}
        for place, left in enumerate(self.lefts):
            for name in left:
                owners[name] = place
        return {name: owners[name] for name in stand}

    def misses(self, place, owners):
        """Whether a whole run of the cell misses on what the owners stand for."""
        return not has_all(owners, self.reads[place])

    def outcome(self, place, owners):
        """How many statements the cell does there, and the first thing that is untrue, or None."""
        key = (place, tuple([owners.get(name, -1) for name in self.reads[place]]))
        if key not in self.memo:
            stand = {name: self.lefts[owners[name]][name] for name in owners}
            many, _, shown, left = go_cell(self.table, stand, self.forms[place])
            top = (self.showns[place], self.lefts[place])
            self.memo[key] = (many, first_unlike(self.likeness, (shown, left), top))
        return self.memo[key]

    def untrue(self, place, owners):
        """The first untrue thing of a run that does not miss, None for a true one."""
        return self.outcome(place, owners)[1]

    def owned(self, place, owners):
        """The owners behind a true run of the cell, as far as it goes."""
        more = dict(owners)
        for name in names_set(self.forms[place][:self.outcome(place, owners)[0]]):
            more[name] = place
        return more


def pairs_of(owners):
    """The owners as a tuple of pairs: what can be sorted, and known again."""
    return tuple([(name, owners[name]) for name in sorted(owners)])


def closed_walk(look, start, may_stop, longest):
    """The owners behind all rows of runs from the start, and None; or the row that ends untrue.

    That row is the shortest one, of these the least; rows are no longer than longest, if that
    is not None. Owners are told as pairs.
    """
    first = pairs_of(start)
    known = {first: True}
    todo = [(first, [])]
    at = 0
    while at < len(todo):
        pairs, row = todo[at]
        owners = dict(pairs)
        for place in range(len(look.forms)):
            if may_stop or not look.misses(place, owners):
                if look.untrue(place, owners) is not None:
                    return (list(known), row + [place])
                behind = pairs_of(look.owned(place, owners))
                if behind not in known and (longest is None or len(row) + 1 < longest):
                    known[behind] = True
                    todo.append((behind, row + [place]))
        at += 1
    return (list(known), None)
