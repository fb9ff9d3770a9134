"""Runs of wide cells, and a wide page looked at from its top."""

from pagestrue.rowtables import RowTable
from pagestrue.toplooks import pairs_of
from pagestrue.wideforms import is_function


class WideRun:
    """A run of a wide cell on what stands, as far as it goes; worths are parts or functions."""

    def __init__(self, table, stand):
        self.table = table
        self.stand = dict(stand)
        self.shows = []
        self.written = {}
        self.looked = {}
        self.called = {}

    def does(self, form):
        """Do the statements: whether none of them misses."""
        for statement in form:
            # What was called before may come to something else, as something else stands.
            self.called = {}
            if not self.does_one(statement):
                return False
        return True

    def does_one(self, statement):
        """Do a statement of the cell: whether it does not miss."""
        if statement[0] == "show":
            part = self.on_page(statement[1])
            self.shows.append(part)
            return part is not None and not is_function(part)
        worth = statement[2:] if statement[0] == "tell" else self.worth_of(statement, {}, ())
        self.stand[statement[1]] = worth
        self.written[statement[1]] = True
        return worth is not None

    def on_page(self, name):
        """What stands under the name on the page at this moment, None for nothing."""
        if name not in self.written:
            self.looked[name] = True
        return self.stand.get(name)

    def found(self, name, scope):
        """What a name stands for, looked up in the function first, then on the page."""
        return scope[name] if name in scope else self.on_page(name)

    def worth_of(self, statement, scope, active):
        """What a set, a copy, a call comes to, None for a miss; active are being called already."""
        if statement[0] == "copy":
            return self.found(statement[2], scope)
        worths = tuple([self.found(name, scope) for name in statement[3]])
        if None in worths:
            return None
        if statement[0] == "set":
            if any([is_function(worth) for worth in worths]):
                return None
            return self.table.put_in(("made", statement[2], worths))
        function = self.found(statement[2], scope)
        if not is_function(function) or len(function[0]) != len(worths):
            return None
        return None if function in active else self.come_to(function, worths, active + (function,))

    def come_to(self, function, worths, active):
        """What a call of the function comes to, None for a miss: the like is not done twice."""
        key = (function, worths, active)
        if key not in self.called:
            self.called[key] = self.body_worth(function, worths, active)
        return self.called[key]

    def body_worth(self, function, worths, active):
        """Do the function's body on its params: what it comes to, None for a miss."""
        scope = dict(list(zip(function[0], worths)))
        for statement in function[1]:
            worth = self.worth_of(statement, scope, active)
            if worth is None:
                return None
            scope[statement[1]] = worth
        return self.found(function[2], scope)

    def left_worths(self):
        """The dict, ascending, of the names that the cell left."""
        return {name: self.stand[name] for name in sorted(self.written)}


class WideLook:
    """The run from the top of a wide page, and runs of its cells on owners of names.

    It comes to an end at the first cell that misses; which one that is stands in miss.
    """

    def __init__(self, forms):
        self.forms = forms
        self.table = RowTable([])
        self.stand = {}
        self.showns = []
        self.lefts = []
        self.looks = []
        self.memo = {}
        self.miss = None
        for place, form in enumerate(forms):
            run = WideRun(self.table, self.stand)
            if not run.does(form):
                self.miss = place
                break
            self.stand = run.stand
            self.showns.append(run.shows)
            self.lefts.append(run.left_worths())
            self.looks.append(sorted(run.looked))

    def outcome(self, place, owners):
        """Whether the cell misses there, and the first thing that is untrue, or None."""
        key = (place, pairs_of(owners))
        if key not in self.memo:
            run = WideRun(self.table, {name: self.lefts[owners[name]][name] for name in owners})
            is_miss = not run.does(self.forms[place])
            self.memo[key] = (is_miss, None if is_miss else self.first_untrue(place, run))
        return self.memo[key]

    def first_untrue(self, place, run):
        """The first thing that the run shows or leaves otherwise than its cell in the top, or None."""
        for at, part in enumerate(run.shows):
            if part != self.showns[place][at]:
                return ("shown", at)
        for name, worth in run.left_worths().items():
            if worth != self.lefts[place][name]:
                return ("left", name)
        return None

    def misses(self, place, owners):
        """Whether a run of the cell misses on what the owners stand for."""
        return self.outcome(place, owners)[0]

    def untrue(self, place, owners):
        """The first untrue thing of a run that does not miss, None for a true one."""
        return self.outcome(place, owners)[1]

    def owned(self, place, owners):
        """The owners behind a true run of the cell."""
        more = dict(owners)
        for name in self.lefts[place]:
            more[name] = place
        return more
