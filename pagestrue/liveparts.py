"""What of a page is live for some cells: its statements, and the fewest cells that show the same."""

from itertools import combinations

from pagestrue.cellforms import read_first
from pagestrue.cellruns import run_row
from pagestrue.errors import BadPlace, BadPlaces
from pagestrue.pages import Page
from pagestrue.rowtables import RowTable
from pagestrue.topruns import miss_of, plain_forms, run_top
from pagestrue.words import is_place, risen_places


def live_pairs(page, places):
    """The page's cells, and the ascending list of the pairs of its live statements."""
    forms = plain_forms(page)
    wrong = risen_places(places, len(forms))
    if wrong is not None:
        raise BadPlaces(wrong)
    return (forms, live_in(forms, places))


def live_in(forms, places):
    """The ascending list of the pairs of the statements that are live for these cells."""
    wanted = {}
    found = []
    for place, at in reversed(all_pairs(forms)):
        statement = forms[place][at]
        if statement[0] == "show":
            is_live = place in places
        else:
            # Whoever sets it is the one whom all its readers further down read.
            is_live = wanted.pop(statement[1], False)
        if is_live:
            found.append((place, at))
            for name in read_first(statement):
                wanted[name] = True
    return sorted(found)


def all_pairs(forms):
    """The ascending list of the pairs of a cell's place and the index of a statement of it."""
    return [(place, at) for place, form in enumerate(forms) for at in range(len(form))]


def live_statements(page, places):
    """The ascending list of the pairs of a place and the index of a live statement there."""
    return live_pairs(page, places)[1]


def live_page(page, places):
    """The page of just the live statements, with as many cells."""
    forms, pairs = live_pairs(page, places)
    cells = [[] for form in forms]
    for place, at in pairs:
        cells[place].append(forms[place][at])
    return Page(cells)


def fewest_cells(page, place):
    """The first one of the shortest lists of cells that are enough for what this cell shows."""
    forms = plain_forms(page)
    if not is_place(place, len(forms)):
        raise BadPlace(place)
    table = RowTable([])
    shown = run_top(table, {}, forms)[0][place]
    # Cells behind it are in no shortest list: nothing hangs on them.
    for many in range(place):
        for lot in combinations(range(place), many):
            places = list(lot) + [place]
            if shows_there(table, forms, places) == shown:
                return places
    return list(range(place + 1))


def shows_there(table, forms, places):
    """What the last one of just these cells shows from the top, None if one of them misses."""
    if miss_of([forms[place] for place in places], {}) is not None:
        return None
    return run_row(table, {}, forms, places)[0][-1][0]
