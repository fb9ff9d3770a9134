"""Stands as text: written, read, and where a text first goes wrong."""

from pagestrue.refusals import BadStandText
from pagestrue.runs import judged_stand
from pagestrue.signscans import Beginnings, SignScan, can_be_above, scan_fault, whole_lines
from pagestrue.webforms import is_part, judged_web
from pagestrue.words import begins_name


def stand_text(web, stand):
    """The stand as a line for each name, ascending."""
    judged_stand(judged_web(web).rows, stand)
    return "".join([name + " " + str(stand[name]) + "\n" for name in sorted(stand)])


def read_stand(web, text):
    """The stand with just this text."""
    fault = stand_text_fault(web, text)
    if fault is not None:
        raise BadStandText(fault[0], fault[1])
    return {words[0]: int(words[1]) for words in whole_lines(text)}


def stand_text_fault(web, text):
    """None for a stand's text, else the line and the sign where it first goes wrong."""
    return scan_fault(StandScan(judged_web(web).rows), text)


class StandScan(SignScan):
    """The last name that was read, and whether its part is being read."""

    def __init__(self, rows):
        SignScan.__init__(self)
        self.part_words = {str(at): True for at in range(len(rows)) if is_part(rows, at)}
        self.part_texts = Beginnings(list(self.part_words))
        self.last_name = ""
        self.is_named = False

    def may_begin(self, text):
        """Whether some name above the last one, or some part, begins with the text."""
        if self.is_named:
            return self.part_texts.how_many(text) > 0
        return begins_name(text) and can_be_above(text, self.last_name) and len(self.part_words) > 0

    def may_end(self, sign):
        """Whether the name ends with a blank here, or the part with the line feed."""
        if self.is_named:
            return sign == "\n" and self.piece in self.part_words
        return sign == " " and self.piece > self.last_name

    def close(self, sign):
        """Take the name or the part."""
        if not self.is_named:
            self.last_name = self.piece
        self.is_named = not self.is_named

    def is_all(self):
        """Whether the last line is whole."""
        return not self.is_named and self.piece == ""
