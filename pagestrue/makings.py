"""Which names are made of which: links from name to name, and rings of them."""

from pagestrue.cellforms import names_read
from pagestrue.cellruns import run_cell
from pagestrue.rowtables import RowTable, cone_of


def given_table(names):
    """A new table with a given row for each name, and the stand of these."""
    table = RowTable([("given", at) for at in range(len(names))])
    return (table, {name: at for at, name in enumerate(names)})


def sources_of(rows, names, part):
    """The names of whose given rows the part is made, itself too, ascending."""
    return [names[rows[at][1]] for at in cone_of(rows, [part]) if rows[at][0] == "given"]


def makings_of(rows, names, parts):
    """The ascending list of the triples (of which name, which name, through a step) of the parts."""
    found = []
    for name in parts:
        for source in sources_of(rows, names, parts[name]):
            found.append((source, name, rows[parts[name]][0] == "made"))
    return sorted(found)


def cell_makings(form):
    """The same of what a cell leaves."""
    names = names_read(form)
    table, stand = given_table(names)
    return makings_of(table.rows, names, run_cell(table, stand, form)[2])


def ring_in(links):
    """A ring of links (who, of which name, which name, through a step), None without one.

    One of them at least is through a step, and no name comes twice.
    """
    for link in links:
        if link[3]:
            way = shortest_way(links, link[2], link[1])
            if way is not None:
                return [link] + way
    return None


def shortest_way(links, start, goal):
    """A shortest list of links from a name to another one, None if there is no way."""
    ways = {start: []}
    todo = [start]
    at = 0
    while at < len(todo) and goal not in ways:
        for link in links:
            if link[1] == todo[at] and link[2] not in ways:
                ways[link[2]] = ways[todo[at]] + [link]
                todo.append(link[2])
        at += 1
    return ways.get(goal)
