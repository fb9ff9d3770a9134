"""Meanings as text: written, read, and where a text first goes wrong."""

from pagestrue.errors import BadMeaning
from pagestrue.meanings import key_of, rows_fault, side_of
from pagestrue.refusals import BadMeaningText
from pagestrue.signscans import SignScan, begins_figures, scan_fault
from pagestrue.webforms import judged_web


def meaning_text(web, meaning):
    """The right meaning as one line."""
    if rows_fault(judged_web(web).rows, meaning) is not None:
        raise BadMeaning(meaning)
    return " ".join([worth_text(worth) for worth in meaning]) + "\n"


def worth_text(worth):
    """A number in figures, a truth as yes or no."""
    if isinstance(worth, bool):
        return "yes" if worth else "no"
    return str(worth)


def text_worth(text):
    """The number or the truth that is written so."""
    return text == "yes" if text in ("yes", "no") else int(text)


def read_meaning(web, text):
    """The right meaning with just this text."""
    fault = meaning_text_fault(web, text)
    if fault is not None:
        raise BadMeaningText(fault[0], fault[1])
    return [] if text == "\n" else [text_worth(word) for word in text[:-1].split(" ")]


def meaning_text_fault(web, text):
    """None for a right meaning's text, else the line and the sign where it first goes wrong."""
    return scan_fault(MeaningScan(judged_web(web).rows), text)


class MeaningScan(SignScan):
    """What was read of the meaning, and what like rows have to have by it."""

    def __init__(self, rows):
        SignScan.__init__(self)
        self.rows = rows
        self.meaning = []
        self.asked_for = {}
        self.is_ended = False

    def choices_here(self):
        """The texts of which the next row has to have one, None for all numbers."""
        row = self.rows[len(self.meaning)]
        if row[0] == "given":
            return None
        if row[0] == "either":
            return [worth_text(self.meaning[side_of(row, self.meaning)])]
        worth = self.asked_for.get(key_of(row, self.meaning))
        if worth is not None:
            return [worth_text(worth)]
        return ["no", "yes"] if row[0] == "asked" else None

    def may_begin(self, text):
        """Whether the next row can have something that begins with the text."""
        if len(self.meaning) == len(self.rows):
            return False
        choices = self.choices_here()
        if choices is None:
            return begins_figures(text)
        return any([choice.startswith(text) for choice in choices])

    def may_end(self, sign):
        """Whether the row's piece is whole, and the sign the one that has to stand behind it."""
        if self.is_ended or sign not in (" ", "\n"):
            return False
        if len(self.rows) == 0:
            return sign == "\n"
        if self.piece == "" or (sign == "\n") != (len(self.meaning) + 1 == len(self.rows)):
            return False
        choices = self.choices_here()
        return choices is None or self.piece in choices

    def close(self, sign):
        """Take the row's worth, and the end of the line."""
        if len(self.rows) > 0:
            row = self.rows[len(self.meaning)]
            worth = text_worth(self.piece)
            if row[0] in ("made", "asked"):
                self.asked_for[key_of(row, self.meaning)] = worth
            self.meaning.append(worth)
        self.is_ended = sign == "\n"

    def is_all(self):
        """Whether the line is at its end."""
        return self.is_ended
