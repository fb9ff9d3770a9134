"""Runs of wide cells, the run from the top, and the first untrue one of a row."""

from pagestrue.errors import Unsound
from pagestrue.misleading import first_wrong_run
from pagestrue.refusals import BadWideCell, BadWideStand
from pagestrue.topruns import judged_runs
from pagestrue.webforms import judged_web
from pagestrue.wideforms import told_worths, wide_form, wide_stand_form
from pagestrue.widelooks import WideLook, WideRun
from pagestrue.widepages import judged_wide


def wide_ran(web, stand, cell):
    """None for a miss, else the web, the stand behind the run, what it shows and leaves."""
    table = judged_web(web)
    stand_form = wide_stand_form(table.rows, stand)
    if stand_form is None:
        raise BadWideStand(stand)
    form = wide_form(cell)
    if form is None:
        raise BadWideCell(cell)
    run = WideRun(table, stand_form)
    if not run.does(form):
        return None
    return (table.rows, told_worths(run.stand), run.shows, told_worths(run.left_worths()))


def sound_look(wide):
    """The look at a wide page that misses nowhere from the top."""
    look = WideLook(judged_wide(wide))
    if look.miss is not None:
        raise Unsound(look.miss)
    return look


def wide_top(wide):
    """The web, what each cell shows, what each leaves, and what stands at the end."""
    look = sound_look(wide)
    lefts = [told_worths(left) for left in look.lefts]
    return (look.table.rows, look.showns, lefts, told_worths(look.stand))


def wide_at(wide, runs):
    """None if no run of the row is untrue, else where the first one is, and in what."""
    look = sound_look(wide)
    return first_wrong_run(look, judged_runs(look.forms, runs))
