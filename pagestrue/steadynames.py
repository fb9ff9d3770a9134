"""Pages named anew, so that no order of whatever hands strays."""

from pagestrue.cellforms import read_first
from pagestrue.errors import BadAnother
from pagestrue.pages import Page
from pagestrue.topruns import miss_of, plain_forms
from pagestrue.weavelooks import WeaveLook


def other_naming(page, another):
    """Whether the other page has the same cells but for names, and the same parts from the top."""
    look = WeaveLook(plain_forms(page))
    if not isinstance(another, Page):
        raise BadAnother(another)
    forms = another.forms
    if miss_of(forms, {}) is not None or [words_of(form) for form in forms] != [words_of(form) for form in look.forms]:
        return False
    # Steps, and how many names are read, stand in the rows; so does what is named by them.
    its = WeaveLook(forms)
    return its.table.rows == look.table.rows and its.parts == look.parts


def words_of(form):
    """The words with which a cell's statements begin."""
    return [statement[0] for statement in form]


def parts_read(look):
    """The ascending list of the parts that some statement reads."""
    return sorted(set([want[name] for wants in look.wants for want in wants for name in want]))


def parts_left(look):
    """The ascending list of the parts that some statement leaves."""
    return sorted(set([look.own_part(place) for place in look.all_places() if look.leaves(place) is not None]))


def names_anew(look):
    """The dict from the parts that are left to their names: all that nobody reads shares one."""
    names = {part: "n" + str(at) for at, part in enumerate(parts_read(look))}
    for part in parts_left(look):
        names.setdefault(part, "rest")
    return names


def steady_naming(page):
    """The page named anew, steady, with the fewest names."""
    look = WeaveLook(plain_forms(page))
    names = names_anew(look)
    cells = [[] for form in look.forms]
    for place in look.all_places():
        cells[place[0]].append(named_anew(look, place, names))
    return Page(cells)


def named_anew(look, place, names):
    """The statement at the place with its parts' names."""
    statement = look.statement(place)
    wants = look.wants[place[0]][place[1]]
    read = [names[wants[name]] for name in read_first(statement)]
    if statement[0] == "show":
        return ("show", read[0])
    name = names[look.own_part(place)]
    return ("copy", name, read[0]) if statement[0] == "copy" else ("set", name, statement[2], read)


def steady_names(page):
    """With how few names it can be made steady."""
    names = names_anew(WeaveLook(plain_forms(page)))
    return len(set(list(names.values())))
