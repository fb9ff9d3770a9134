"""Which cells are fresh behind a row of runs, and the fewest runs that mend it."""

from pagestrue.cellruns import run_row
from pagestrue.mendlooks import MendLook, last_told
from pagestrue.topruns import judged_runs, sound_forms


class RunsBehind:
    """A sound page, and what some rows of runs from nothing, one behind another, told last."""

    def __init__(self, forms, rows):
        runs = [place for row in rows for place in row]
        self.look = MendLook(forms, ())
        told, stand = run_row(self.look.table, {}, forms, runs)
        self.told_last = last_told(len(forms), told, runs)
        self.state = self.look.state_of(stand, self.told_last)


def judged_behind(page, runs):
    """What the row of runs told."""
    forms = sound_forms(page)
    return RunsBehind(forms, [judged_runs(forms, runs)])


def mark_of(told, is_fresh):
    """The mark of a cell, by what it told last."""
    if told is None:
        return "none"
    return "fresh" if is_fresh else "stale"


def marks(page, runs):
    """For each cell "none", "fresh" or "stale"."""
    behind = judged_behind(page, runs)
    return [mark_of(told, is_fresh) for told, is_fresh in zip(behind.told_last, behind.state[1])]


def stale_at(page, runs):
    """None if no cell is stale, else the first one that is, and in what."""
    behind = judged_behind(page, runs)
    for place, told in enumerate(behind.told_last):
        if told is not None and not behind.state[1][place]:
            word, what = behind.look.stale_thing(place, told)
            return (place, "shows" if word == "shown" else "leaves", what)
    return None


def mends(page, runs, again):
    """Whether behind both rows each cell is fresh."""
    forms = sound_forms(page)
    behind = RunsBehind(forms, [judged_runs(forms, runs), judged_runs(forms, again)])
    return all(behind.state[1])


def mending(page, runs):
    """The least of the shortest rows behind which each cell is fresh."""
    behind = judged_behind(page, runs)
    return behind.look.mending_row(behind.state)


def one_more(page, runs):
    """The ascending list of the cells with which a row as short as mending can begin."""
    behind = judged_behind(page, runs)
    look = behind.look
    many = len(look.mending_row(behind.state))
    if many == 0:
        return []
    told = []
    for place in range(len(look.forms)):
        further = look.behind(behind.state, place)
        if further != behind.state and look.row_within(further, many - 1) is not None:
            told.append(place)
    return told
