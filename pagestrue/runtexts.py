"""Rows of runs as text: written, read, and where a text first goes wrong."""

from pagestrue.errors import BadRuns
from pagestrue.refusals import BadMany, BadRunsText
from pagestrue.signscans import SignScan, begins_figures, scan_fault
from pagestrue.words import is_list, is_number, is_place


def judged_many(many):
    """A number of cells."""
    if not is_number(many):
        raise BadMany(many)
    return many


def runs_text(many, runs):
    """The row of runs as one line."""
    judged_many(many)
    if not is_list(runs) or not all([is_place(one, many) for one in runs]):
        raise BadRuns(runs)
    return " ".join([str(one) for one in runs]) + "\n"


def read_runs(many, text):
    """The row of runs with just this text."""
    fault = runs_text_fault(many, text)
    if fault is not None:
        raise BadRunsText(fault[0], fault[1])
    return [] if text == "\n" else [int(word) for word in text[:-1].split(" ")]


def runs_text_fault(many, text):
    """None for a row's text, else the line and the sign where it first goes wrong."""
    return scan_fault(RunsScan(judged_many(many)), text)


class RunsScan(SignScan):
    """Whether some place was read, and whether the line is at its end."""

    def __init__(self, many):
        SignScan.__init__(self)
        self.many = many
        self.has_place = False
        self.is_ended = False

    def may_begin(self, text):
        """Whether some place begins with the text: if so the text is one itself."""
        return not self.is_ended and begins_figures(text) and int(text) < self.many

    def may_end(self, sign):
        """Whether a blank or the line feed may stand here."""
        if self.piece == "":
            return sign == "\n" and not self.has_place
        return sign in (" ", "\n")

    def close(self, sign):
        """Take the place, or the end of the line."""
        self.has_place = True
        self.is_ended = sign == "\n"

    def is_all(self):
        """Whether the line is at its end."""
        return self.is_ended
