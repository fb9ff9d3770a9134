"""Wide pages: cells that tell functions and call them."""

from pagestrue.refusals import BadWide, BadWideCells
from pagestrue.wideforms import told_wide, wide_form
from pagestrue.words import is_list


class WidePage:
    """A page of wide cells, each with its statements."""

    def __init__(self, cells):
        if not is_list(cells):
            raise BadWideCells(0)
        forms = []
        for at, cell in enumerate(cells):
            form = wide_form(cell)
            if form is None:
                raise BadWideCells(at)
            forms.append(form)
        self.forms = tuple(forms)

    def cells(self):
        """The list of its cells."""
        return [told_wide(form) for form in self.forms]

    def __eq__(self, other):
        return isinstance(other, WidePage) and self.forms == other.forms


def is_wide_cell(thing):
    """Whether it is a wide cell."""
    return wide_form(thing) is not None


def judged_wide(wide):
    """The wide page's cells as tuples."""
    if not isinstance(wide, WidePage):
        raise BadWide(wide)
    return wide.forms
