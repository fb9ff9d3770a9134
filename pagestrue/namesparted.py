"""Names parted: how cells clash under one name, and with how few names they do not."""

from pagestrue.cellforms import names_read, names_set
from pagestrue.cellruns import run_cell
from pagestrue.errors import BadParting
from pagestrue.pages import Page
from pagestrue.rowtables import RowTable, cone_of
from pagestrue.topruns import plain_forms, run_top
from pagestrue.words import is_name, is_number, is_place


def needs_by(page):
    """For each cell the ascending list of the names that it needs."""
    return [needed_names(form) for form in plain_forms(page)]


def needed_names(form):
    """The names of whose parts something that the cell shows or leaves is made."""
    names = names_read(form)
    table = RowTable([("given", at) for at in range(len(names))])
    _, shown, left = run_cell(table, {name: at for at, name in enumerate(names)}, form)
    used = cone_of(table.rows, shown + list(left.values()))
    return [name for at, name in enumerate(names) if at in used]


class Needs:
    """What cells leave and need, as it stands in the run from the top."""

    def __init__(self, forms):
        self.lefts = run_top(RowTable([]), {}, forms)[1]
        self.wants = []
        stand = {}
        for form, left in zip(forms, self.lefts):
            self.wants.append({name: stand[name] for name in needed_names(form)})
            for name in left:
                stand[name] = left[name]

    def classes(self, name):
        """The lots of the cells that set the name and may go on sharing it, by first cells."""
        wanted = [parts[name] for parts in self.wants if name in parts]
        lots = {}
        for place, left in enumerate(self.lefts):
            if name in left:
                # Nobody is misled by parts that nobody needs: they may all share one name.
                part = left[name] if left[name] in wanted else None
                lots.setdefault(part, []).append(place)
        return list(lots.values())

    def all_names(self):
        """The ascending list of the names that cells set."""
        return sorted({name: True for left in self.lefts for name in left})


def clashes(page):
    """The ascending list of who leaves another part under a name than somebody needs there."""
    needs = Needs(plain_forms(page))
    found = []
    for place, left in enumerate(needs.lefts):
        for other, parts in enumerate(needs.wants):
            for name in parts:
                if name in left and left[name] != parts[name]:
                    found.append((place, other, name))
    return sorted(found)


def set_pairs(forms):
    """The ascending list of the pairs of a cell's place and a name that it sets."""
    return [(place, name) for place, form in enumerate(forms) for name in names_set(form)]


def is_parting(page, thing):
    """Whether it is a parting of the page."""
    return is_parting_of(plain_forms(page), thing)


def is_parting_of(forms, thing):
    """Whether it is a dict from just the pairs of a place and a name set there to numbers."""
    if not isinstance(thing, dict) or not all([is_set_pair(forms, key) for key in thing]):
        return False
    return len(thing) == len(set_pairs(forms)) and all([is_number(one) for one in thing.values()])


def is_set_pair(forms, thing):
    """Whether it is a pair of a cell's place and a name that this cell sets."""
    if not isinstance(thing, tuple) or len(thing) != 2 or not is_name(thing[1]):
        return False
    return is_place(thing[0], len(forms)) and thing[1] in names_set(forms[thing[0]])


def parted(page, parting):
    """The page with its names parted, and the new names by old ones and numbers."""
    forms = plain_forms(page)
    if not is_parting_of(forms, parting):
        raise BadParting(parting)
    pairs = sorted(set([(key[1], parting[key]) for key in parting]))
    names = {pair: "n" + str(at) for at, pair in enumerate(pairs)}
    current = {}
    cells = []
    for place, form in enumerate(forms):
        own = {name: names[(name, parting[(place, name)])] for name in names_set(form)}
        cells.append(parted_form(form, own, current))
    return (Page(cells), names)


def parted_form(form, own, current):
    """The statements with new names: of what they set the own ones, of all else the current ones.

    What they set is current from then on.
    """
    told = []
    for statement in form:
        word = statement[0]
        if word == "show":
            told.append((word, current[statement[1]]))
            continue
        name = own[statement[1]]
        if word == "copy":
            told.append((word, name, current[statement[2]]))
        else:
            told.append((word, name, statement[2], [current[read] for read in statement[3]]))
        current[statement[1]] = name
    return told


def fewest_names(page):
    """How many classes all names have, together."""
    needs = Needs(plain_forms(page))
    return sum([len(needs.classes(name)) for name in needs.all_names()])


def least_parting(page):
    """The parting by which the page never misleads, with the fewest names."""
    needs = Needs(plain_forms(page))
    numbers = {}
    for name in needs.all_names():
        for number, lot in enumerate(needs.classes(name)):
            for place in lot:
                numbers[(place, name)] = number
    return {key: numbers[key] for key in sorted(numbers)}
