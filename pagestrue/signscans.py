"""Texts read sign by sign: whether some right text begins with all that was read."""

from pagestrue.words import LONGEST_NAME, is_figure

MOST_FIGURES = 9
FIGURES = 10
NAME_SIGNS = 36


class SignScan:
    """A text as far as it is read, and the piece that is being read.

    Each kind of text tells of itself which pieces may begin and end where it is, and what an end does.
    """

    def __init__(self):
        self.piece = ""

    def take_sign(self, sign):
        """Whether a right text can go on with the sign; if so it is taken."""
        if self.may_end(sign):
            self.close(sign)
            self.piece = ""
            return True
        if not self.may_begin(self.piece + sign):
            return False
        self.piece = self.piece + sign
        return True

    def may_end(self, sign):
        """Whether the piece is whole, and the sign may stand behind it."""
        return False

    def may_begin(self, text):
        """Whether some piece that may stand here begins with the text."""
        return False

    def close(self, sign):
        """Take the piece, which the sign ends."""

    def is_all(self):
        """Whether what was read is a right text."""
        return False


def scan_fault(scan, text):
    """None for a right text, else the line and the sign where it first goes wrong."""
    if not isinstance(text, str):
        return (0, 0)
    line = 1
    sign = 1
    for one in text:
        if not scan.take_sign(one):
            return (line, sign)
        if one == "\n":
            line += 1
            sign = 1
        else:
            sign += 1
    return None if scan.is_all() else (line, sign)


class Beginnings:
    """How many of some texts begin with a text."""

    def __init__(self, texts):
        self.counted = {}
        for text in texts:
            self.count_in(text)

    def count_in(self, text):
        """Put one more text to them."""
        for at in range(len(text) + 1):
            self.counted[text[:at]] = self.counted.get(text[:at], 0) + 1

    def how_many(self, beginning):
        """How many of them begin so."""
        return self.counted.get(beginning, 0)


def begins_figures(text):
    """Whether some number's text begins with this one, which is not empty."""
    if len(text) > MOST_FIGURES or not all([is_figure(sign) for sign in text]):
        return False
    return len(text) == 1 or text[0] != "0"


def all_numbers_from(text):
    """How many numbers' texts begin with this one, which is such a text."""
    return 1 if text == "0" else all_texts_from(MOST_FIGURES - len(text), FIGURES)


def all_names_from(text):
    """How many names begin with this text, which is a name."""
    return all_texts_from(LONGEST_NAME - len(text), NAME_SIGNS)


def all_texts_from(more, kinds):
    """How many texts there are of at most so many signs of so many kinds."""
    many = 1
    for _ in range(more):
        many = many * kinds + 1
    return many


def can_be_above(text, last):
    """Whether some name that begins with the text is above the last one."""
    return text.ljust(LONGEST_NAME, "z") > last


def whole_lines(text):
    """The words of each line of a right text."""
    return [line.split(" ") for line in text.split("\n")[:-1]]
