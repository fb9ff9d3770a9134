"""What a part is made of: counted, thinned, decided."""

from pagestrue.errors import BadParts, BadTruths
from pagestrue.rowtables import RowTable, cone_of, led_row, named_rows
from pagestrue.webforms import is_part, judged_part, judged_web
from pagestrue.words import first_wrong, is_list, is_place


def needed(web, part):
    """The web's rows, and the indexes of those that the part needs."""
    rows = judged_web(web).rows
    return (rows, cone_of(rows, [judged_part(rows, part)]))


def needs_of(web, part):
    """The ascending list of the rows of which the part is made."""
    return needed(web, part)[1]


def thinned_web(web, parts):
    """The web of just the rows that the parts need, and where these stand."""
    rows = judged_web(web).rows
    if not is_list(parts):
        raise BadParts(0)
    wrong = first_wrong([is_part(rows, part) for part in parts])
    if wrong is not None:
        raise BadParts(wrong)
    table = RowTable([])
    places = {}
    for at in cone_of(rows, parts):
        places[at] = table.put_in(led_row(rows[at], places))
    return (table.rows, [places[part] for part in parts])


def steps_in(web, part):
    """How many made rows the part needs."""
    rows, found = needed(web, part)
    return len([at for at in found if rows[at][0] == "made"])


def tests_in(web, part):
    """The ascending list of the asked rows that the part needs."""
    rows, found = needed(web, part)
    return [at for at in found if rows[at][0] == "asked"]


def depth_of(web, part):
    """The greatest number of made rows of which one needs the next one."""
    rows, found = needed(web, part)
    depths = {}
    for at in found:
        deepest = max([depths[its] for its in named_rows(rows[at])], default=0)
        depths[at] = deepest + 1 if rows[at][0] == "made" else deepest
    return depths[part]


def tree_of(web, part):
    """How many steps are done if nothing is kept."""
    rows, found = needed(web, part)
    sizes = {}
    for at in found:
        own = 1 if rows[at][0] == "made" else 0
        sizes[at] = own + sum([sizes[its] for its in named_rows(rows[at])])
    return sizes[part]


def decided(web, truths):
    """The web made anew with some tests' truths, and where each row stands."""
    rows = judged_web(web).rows
    if not are_truths(rows, truths):
        raise BadTruths(truths)
    table = RowTable([])
    places = []
    for row in rows:
        places.append(decided_place(table, row, places, truths))
    return (table.rows, places)


def are_truths(rows, thing):
    """Whether it is a dict from asked rows to bools."""
    if not isinstance(thing, dict) or not all([is_asked(rows, at) for at in thing]):
        return False
    return all([isinstance(truth, bool) for truth in thing.values()])


def is_asked(rows, thing):
    """Whether it is the index of an asked row."""
    return is_place(thing, len(rows)) and rows[thing][0] == "asked"


def decided_place(table, row, places, truths):
    """Where the row stands, led over, once its test is decided."""
    if row[0] == "either":
        if row[1] in truths:
            return places[row[2] if truths[row[1]] else row[3]]
        if places[row[2]] == places[row[3]]:
            return places[row[2]]
    return table.put_in(led_row(row, places))
