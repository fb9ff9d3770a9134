"""Pages with changes: names hold boxes, and what is in a box is changed for all who hold it."""

from pagestrue.boxforms import box_form, standing_form, told_box_cell, told_standing
from pagestrue.boxlooks import BoxLook, BoxRun
from pagestrue.refusals import BadBoxCell, BadBoxCells, BadBoxPage, BadStanding, UnsoundBoxes
from pagestrue.webforms import judged_web
from pagestrue.words import is_list


class BoxPage:
    """A page of cells with changes, each with its statements."""

    def __init__(self, cells):
        if not is_list(cells):
            raise BadBoxCells(0)
        forms = []
        for at, cell in enumerate(cells):
            form = box_form(cell)
            if form is None:
                raise BadBoxCells(at)
            forms.append(form)
        self.forms = tuple(forms)

    def boxcells(self):
        """The list of its cells."""
        return [told_box_cell(form) for form in self.forms]

    def __eq__(self, other):
        return isinstance(other, BoxPage) and self.forms == other.forms


def sound_boxes(boxpage):
    """The look at a page with boxes that misses nowhere from the top."""
    if not isinstance(boxpage, BoxPage):
        raise BadBoxPage(boxpage)
    look = BoxLook(boxpage.forms)
    if look.miss is not None:
        raise UnsoundBoxes(look.miss)
    return look


def box_run(web, standing, boxcell):
    """None for a miss, else the web, the standing behind the run, what it shows and leaves."""
    table = judged_web(web)
    stands = standing_form(table.rows, standing)
    if stands is None:
        raise BadStanding(standing)
    form = box_form(boxcell)
    if form is None:
        raise BadBoxCell(boxcell)
    run = BoxRun(table, stands)
    if not run.does(form):
        return None
    return (table.rows, told_standing(run.now_standing()), run.shows, run.left_parts())


def box_top(boxpage):
    """The web, what each cell shows, what each leaves, and what stands at the end."""
    look = sound_boxes(boxpage)
    showns = [shows for shows, _ in look.tops]
    lefts = [left for _, left in look.tops]
    return (look.table.rows, showns, lefts, told_standing(look.last))
