"""Runs of cells over boxes, and a page with boxes looked at from its top."""

from pagestrue.rowtables import RowTable


class BoxRun:
    """A run of a cell on a standing: names hold boxes by their numbers, in each of which is a part."""

    def __init__(self, table, standing):
        self.table = table
        self.held = {name: at for at, pair in enumerate(standing) for name in pair[0]}
        self.inside = [part for _, part in standing]
        self.shows = []
        self.touched_names = {}

    def does(self, form):
        """Do the statements: whether none of them misses."""
        for statement in form:
            if not all([name in self.held for name in names_of_boxes(statement)]):
                return False
            self.does_one(statement)
        return True

    def does_one(self, statement):
        """Do a statement of which all names that it reads hold boxes."""
        word = statement[0]
        if word == "show":
            self.shows.append(self.part_of(statement[1]))
        elif word == "copy":
            self.held[statement[1]] = self.held[statement[2]]
            self.touched_names[statement[1]] = True
        else:
            names = names_of_boxes(statement)
            part = self.table.put_in(("made", statement[2], tuple([self.part_of(name) for name in names])))
            if word == "set":
                self.held[statement[1]] = len(self.inside)
                self.inside.append(part)
                self.touched_names[statement[1]] = True
            else:
                self.change(self.held[statement[1]], part)

    def change(self, box, part):
        """Put another part into the box, whoever holds it."""
        self.inside[box] = part
        for name in self.held:
            if self.held[name] == box:
                self.touched_names[name] = True

    def part_of(self, name):
        """What is in the box that the name holds."""
        return self.inside[self.held[name]]

    def left_parts(self):
        """The dict, ascending, of the names that the cell left."""
        return {name: self.part_of(name) for name in sorted(self.touched_names)}

    def now_standing(self):
        """What stands now, as tuples."""
        holders = {}
        for name in sorted(self.held):
            holders.setdefault(self.held[name], []).append(name)
        return tuple(sorted([(tuple(holders[box]), self.inside[box]) for box in holders]))


def names_of_boxes(statement):
    """The names whose boxes a statement reads, in the order in which a step takes them."""
    if statement[0] == "set":
        return statement[3]
    if statement[0] == "change":
        return statement[1:2] + statement[3]
    return statement[-1:]


class BoxLook:
    """The run from the top of a page with boxes, and runs of its cells on standings.

    It comes to an end at the first cell that misses; which one that is stands in miss.
    """

    def __init__(self, forms):
        self.forms = forms
        self.table = RowTable([])
        self.last = ()
        self.tops = []
        self.miss = None
        for place, form in enumerate(forms):
            run = BoxRun(self.table, self.last)
            if not run.does(form):
                self.miss = place
                break
            self.last = run.now_standing()
            self.tops.append((run.shows, run.left_parts()))

    def behind(self, standing, place):
        """Whether a run of the cell does not mislead, and what stands behind it."""
        run = BoxRun(self.table, standing)
        if not run.does(self.forms[place]):
            return (True, standing)
        return ((run.shows, run.left_parts()) == self.tops[place], run.now_standing())

    def misled_at(self, standing, places):
        """The place in a row of runs of the first one that misleads, None without one."""
        now = standing
        for at, place in enumerate(places):
            is_true, now = self.behind(now, place)
            if not is_true:
                return at
        return None

    def closed_walk(self, start):
        """The standings behind all rows of runs from the start, and None; or the row that misleads.

        That row is the shortest one, of these the least.
        """
        known = {start: True}
        todo = [(start, [])]
        at = 0
        while at < len(todo):
            standing, row = todo[at]
            for place in range(len(self.forms)):
                is_true, behind = self.behind(standing, place)
                if not is_true:
                    return (list(known), row + [place])
                if behind not in known:
                    known[behind] = True
                    todo.append((behind, row + [place]))
            at += 1
        return (list(known), None)

    def is_closed(self, standings):
        """Whether all runs on each of these do not mislead, and lead to some of them."""
        known = {standing: True for standing in standings}
        for standing in known:
            for place in range(len(self.forms)):
                is_true, behind = self.behind(standing, place)
                if not is_true or behind not in known:
                    return False
        return () in known
