"""What cells showed and left last, held against the run from the top, and the fewest runs that mend it.

A state is what stands under the names that are read, None for nothing, and of each cell whether
it is fresh.
"""

from pagestrue.cellforms import has_if, names_read
from pagestrue.cellruns import run_cell
from pagestrue.likeness import Likeness, first_unlike
from pagestrue.rowtables import RowTable
from pagestrue.topruns import run_top


class MendLook:
    """The cells of a sound page, their run from the top in a new table, and runs on whatever stands.

    Others are the cells by which it came to stand.
    """

    def __init__(self, forms, others):
        self.table = RowTable([])
        self.forms = forms
        showns, lefts, _ = run_top(self.table, {}, forms)
        self.tops = list(zip(showns, lefts))
        self.many = len(self.table.rows)
        # Without ifs what is no row of the top never gets into one: it may all be one part.
        is_plain = not any([has_if(form) for form in forms + others])
        self.any_other = self.table.put_in(("given", 0)) if is_plain else None
        self.likeness = Likeness(self.table)
        self.reads = [names_read(form) for form in forms]
        self.names = sorted({name: True for names in self.reads for name in names})
        self.memo = {}
        self.hopeless = {}

    def stale_thing(self, place, told):
        """The first thing shown or left that is not as in the cell's run from the top, or None."""
        return first_unlike(self.likeness, told, self.tops[place])

    def is_fresh(self, place, told):
        """Whether all that is shown and left is as in the cell's run from the top; told is None for nothing."""
        if told is None or len(told[0]) != len(self.tops[place][0]) or list(told[1]) != list(self.tops[place][1]):
            return False
        return self.stale_thing(place, told) is None

    def state_of(self, stand, told_last):
        """The state in which this stands and this was told last."""
        fresh = [self.is_fresh(place, told) for place, told in enumerate(told_last)]
        return (tuple([self.seen_part(stand.get(name)) for name in self.names]), tuple(fresh))

    def seen_part(self, part):
        """The part, or the one that stands for all others that can not be told apart."""
        if part is None or self.any_other is None or part < self.many:
            return part
        return self.any_other

    def outcome(self, stand, place):
        """None for a miss, else what the cell leaves there, and whether it is fresh then."""
        key = (place, tuple([stand[name] for name in self.reads[place]]))
        if key not in self.memo:
            told = None if None in key[1] else run_cell(self.table, stand, self.forms[place])[1:]
            self.memo[key] = None if told is None else (told[1], self.is_fresh(place, told))
        return self.memo[key]

    def behind(self, state, place):
        """The state behind a run of the cell."""
        stand = dict(list(zip(self.names, state[0])))
        went = self.outcome(stand, place)
        if went is None:
            return state
        parts = [self.seen_part(went[0].get(name, stand[name])) for name in self.names]
        return (tuple(parts), state[1][:place] + (went[1],) + state[1][place + 1:])

    def row_within(self, state, many):
        """The least row of so many runs that mends the state, None without one; no shorter one does."""
        stale = len([is_fresh for is_fresh in state[1] if not is_fresh])
        if stale == 0:
            return []
        if stale > many or self.hopeless.get(state, 0) >= many:
            return None
        for place in range(len(self.forms)):
            behind = self.behind(state, place)
            row = None if behind == state else self.row_within(behind, many - 1)
            if row is not None:
                return [place] + row
        self.hopeless[state] = many
        return None

    def mending_row(self, state):
        """The least of the shortest rows that mend the state: the run from the top always does."""
        many = 0
        row = None
        while row is None:
            row = self.row_within(state, many)
            many += 1
        return row


def last_told(many, told, runs):
    """Of each of so many cells what its last run that did not miss shows and leaves, or None."""
    last = [None] * many
    for place, one in zip(runs, told):
        if one is not None:
            last[place] = one
    return last
