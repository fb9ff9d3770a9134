"""Stands looked at by what is wished for: which wanted part each name stands for, or another one.

A view is kept as a tuple of numbers, one for each name: a wanted row's index, OTHER where
something stands that is not wanted, NOTHING where nothing stands.
"""

from pagestrue.cellforms import names_read
from pagestrue.errors import BadPlain, BadStand, BadWished
from pagestrue.pages import ifless_forms, names_of
from pagestrue.rowtables import cone_of
from pagestrue.runs import stands_on
from pagestrue.webforms import judged_web
from pagestrue.words import is_list, is_name

OTHER = -1
NOTHING = -2


class ViewLook:
    """Runs of a page's cells seen on views."""

    def __init__(self, forms, names, rows, wished):
        self.forms = forms
        self.names = names
        self.where = {name: at for at, name in enumerate(names)}
        self.wished = [(self.where[name], wished[name]) for name in sorted(wished)]
        self.wanted_rows = {at: True for at in cone_of(rows, list(wished.values()))}
        self.made = {row[1:]: at for at, row in enumerate(rows) if row[0] == "made" and at in self.wanted_rows}
        self.reads = [[self.where[name] for name in names_read(form)] for form in forms]
        self.memo = {}

    def view_of(self, stand):
        """The view of a stand."""
        return tuple([self.seen(stand, name) for name in self.names])

    def seen(self, stand, name):
        """What is seen under a name of a stand."""
        if name not in stand:
            return NOTHING
        return stand[name] if stand[name] in self.wanted_rows else OTHER

    def behind(self, view, place):
        """The view behind a run of the cell."""
        changes = self.changes(view, place)
        if not changes:
            return view
        more = list(view)
        for at, part in changes:
            more[at] = part
        return tuple(more)

    def changes(self, view, place):
        """What the run lets names stand for, as pairs; none of a miss."""
        key = (place, tuple([view[at] for at in self.reads[place]]))
        if key not in self.memo:
            self.memo[key] = [] if NOTHING in key[1] else self.left(view, place)
        return self.memo[key]

    def left(self, view, place):
        """What the cell leaves, nothing that it reads lacking."""
        parts = {}
        for statement in self.forms[place]:
            if statement[0] == "copy":
                parts[statement[1]] = self.part_there(view, parts, statement[2])
            elif statement[0] == "set":
                needs = tuple([self.part_there(view, parts, name) for name in statement[3]])
                parts[statement[1]] = self.made.get((statement[2], needs), OTHER)
        return [(self.where[name], parts[name]) for name in parts]

    def part_there(self, view, parts, name):
        """What stands under the name amid a run."""
        return parts[name] if name in parts else view[self.where[name]]

    def has_wished(self, view):
        """Whether all that is wished for stands."""
        return all([view[at] == part for at, part in self.wished])

    def told(self, view):
        """The view as it is told."""
        return [(name, part) for name, part in zip(self.names, view) if part != NOTHING]

    def view_form(self, thing):
        """A view that was passed, as a list of pairs, None if it is none."""
        if not is_list(thing) or not all([self.is_seen(one) for one in thing]):
            return None
        names = [one[0] for one in thing]
        return [tuple(one) for one in thing] if names == sorted(set(names)) else None

    def is_seen(self, thing):
        """Whether it is a pair of a name and a wanted part or OTHER."""
        if not is_list(thing) or len(thing) != 2 or not is_name(thing[0]) or thing[0] not in self.where:
            return False
        if not isinstance(thing[1], int) or isinstance(thing[1], bool):
            return False
        return thing[1] == OTHER or thing[1] in self.wanted_rows


class Quest:
    """A page, a web, what stands and what is wished for, all judged."""

    def __init__(self, page, web, stand, wished):
        self.forms = ifless_forms(page)
        self.rows = judged_web(web).rows
        for at, row in enumerate(self.rows):
            if row[0] in ("asked", "either"):
                raise BadPlain(at)
        if not stands_on(self.rows, stand):
            raise BadStand(stand)
        if not stands_on(self.rows, wished):
            raise BadWished(wished)
        self.places = list(range(len(self.forms)))
        self.names = sorted(set(names_of(page)[0] + list(stand) + list(wished)))
        self.look = self.look_for(wished)
        self.start = self.look.view_of(stand)

    def look_for(self, wished):
        """The look by which just this is wished for."""
        return ViewLook(self.forms, self.names, self.rows, wished)

    def along(self, runs):
        """The views of what stands, and behind each run."""
        views = [self.start]
        for place in runs:
            views.append(self.look.behind(views[-1], place))
        return views


def bringing(look, start, places):
    """The views that come by runs of these cells, and the first row that brings what is wished.

    The row is the least of the shortest ones; it is None if none does, else not all views are told.
    """
    came = {start: None}
    todo = [start]
    at = 0
    while at < len(todo):
        view = todo[at]
        if look.has_wished(view):
            return (todo, row_to(came, view))
        for place in places:
            behind = look.behind(view, place)
            if behind not in came:
                came[behind] = (view, place)
                todo.append(behind)
        at += 1
    return (todo, None)


def row_to(came, view):
    """The row of runs by which the view came."""
    row = []
    step = came[view]
    while step is not None:
        row.append(step[1])
        step = came[step[0]]
    return row[::-1]
