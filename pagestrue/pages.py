"""Pages: lists of cells."""

from pagestrue.cellforms import cell_form, has_if, told_statements
from pagestrue.errors import BadCells, BadNames, BadPage, HasIf
from pagestrue.words import are_names, is_list


class Page:
    """A page of cells, each with its statements."""

    def __init__(self, cells):
        if not is_list(cells):
            raise BadCells(0)
        forms = []
        for at, cell in enumerate(cells):
            form = cell_form(cell)
            if form is None:
                raise BadCells(at)
            forms.append(form)
        self.forms = tuple(forms)

    def cells(self):
        """The list of its cells."""
        return [told_statements(form) for form in self.forms]

    def __eq__(self, other):
        return isinstance(other, Page) and self.forms == other.forms


def is_cell(thing):
    """Whether it is a cell."""
    return cell_form(thing) is not None


def judged_page(page):
    """The page's cells as tuples."""
    if not isinstance(page, Page):
        raise BadPage(page)
    return page.forms


def refuse_ifs(forms):
    """Raise HasIf of the first cell that has one."""
    for at, form in enumerate(forms):
        if has_if(form):
            raise HasIf(at)


def ifless_forms(page):
    """The cells, as tuples, of a page without ifs."""
    forms = judged_page(page)
    refuse_ifs(forms)
    return forms


def names_of(page):
    """The ascending lists of the page's names of values, of steps, of tests."""
    found = ({}, {}, {})
    for form in judged_page(page):
        note_names(form, found)
    return tuple([sorted(names) for names in found])


def note_names(form, found):
    """Put the names of the statements into three dicts: of values, of steps, of tests."""
    values, steps, tests = found
    for statement in form:
        named = statement[1:]
        if statement[0] == "set":
            steps[statement[2]] = True
            named = (statement[1],) + statement[3]
        elif statement[0] == "if":
            tests[statement[1]] = True
            named = statement[2]
            note_names(statement[3] + statement[4], found)
        for name in named:
            values[name] = True


def renamed(page, names):
    """The page with other names of values."""
    forms = judged_page(page)
    if not is_naming(names, names_of(page)[0]):
        raise BadNames(names)
    return Page([renamed_form(form, names) for form in forms])


def is_naming(thing, values):
    """Whether it is a dict from just these names to unlike names."""
    if not isinstance(thing, dict) or len(thing) != len(values):
        return False
    if not all([name in thing for name in values]):
        return False
    given = list(thing.values())
    return are_names(given) and len(set(given)) == len(values)


def renamed_form(form, names):
    """The statements with other names of values."""
    return tuple([renamed_statement(statement, names) for statement in form])


def renamed_statement(statement, names):
    """A statement with other names of values."""
    word = statement[0]
    if word == "set":
        return (word, names[statement[1]], statement[2], renamed_all(statement[3], names))
    if word == "if":
        sides = [renamed_form(side, names) for side in statement[3:]]
        return (word, statement[1], renamed_all(statement[2], names), sides[0], sides[1])
    return (word,) + renamed_all(statement[1:], names)


def renamed_all(old, names):
    """The names that stand for these."""
    return tuple([names[name] for name in old])
