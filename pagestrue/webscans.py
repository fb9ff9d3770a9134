"""A web's text as it is read, sign by sign: which rows can still come."""

from pagestrue.rowtables import RowTable
from pagestrue.signscans import Beginnings, SignScan, all_names_from, all_numbers_from, begins_figures
from pagestrue.words import begins_name, is_name


class WebScan(SignScan):
    """The rows that were read, and the words of the line that is being read."""

    def __init__(self):
        SignScan.__init__(self)
        self.table = RowTable([])
        self.line_words = []
        # Indexes and numbers as texts; of each pair of an asked row and a part the other sides.
        self.part_texts = Beginnings([])
        self.asked_texts = Beginnings([])
        self.given_texts = Beginnings([])
        self.bare_tests = Beginnings([])
        self.other_sides = {}

    def has_part(self):
        """Whether there is a part ahead."""
        return self.part_texts.how_many("") > 0

    def first_words(self):
        """With which words a line may begin."""
        words = ["made", "asked", "given"]
        if self.asked_texts.how_many("") > 0 and self.part_texts.how_many("") > 1:
            words.append("either")
        return words

    def may_begin(self, text):
        """Whether some word that may stand here begins with the text."""
        at = len(self.line_words)
        if at == 0:
            return any([word.startswith(text) for word in self.first_words()])
        word = self.line_words[0]
        if word == "given":
            return begins_figures(text) and self.given_texts.how_many(text) < all_numbers_from(text)
        if word == "either":
            return self.may_be_side(text, at)
        if at > 1:
            return self.part_texts.how_many(text) > 0
        if word == "made" or self.has_part():
            return begins_name(text)
        # Where no need can come, a test that was asked of nothing already can not be asked again.
        return begins_name(text) and self.bare_tests.how_many(text) < all_names_from(text)

    def may_be_side(self, text, at):
        """Whether some index of an either's line, at this place, begins with the text."""
        if at == 1:
            return self.asked_texts.how_many(text) > 0
        many = self.part_texts.how_many(text)
        if at == 3:
            many -= self.sides_gone().how_many(text)
        return many > 0

    def sides_gone(self):
        """The sides that can not be the other one in this line: the one itself, and those of rows ahead."""
        key = (self.line_words[1], self.line_words[2])
        return self.other_sides.setdefault(key, Beginnings([self.line_words[2]]))

    def may_end(self, sign):
        """Whether the word is whole, and a blank or the line feed may stand behind it."""
        if self.piece == "" or sign not in (" ", "\n"):
            return False
        at = len(self.line_words)
        if at == 0:
            return sign == " " and self.piece in self.first_words()
        word = self.line_words[0]
        if not self.is_whole_word(word, at):
            return False
        if sign == " ":
            return at < 3 if word == "either" else word != "given" and self.has_part()
        if word == "either" and (at < 3 or self.piece == self.line_words[2]):
            return False
        return row_of_words(self.line_words + [self.piece]) not in self.table.where

    def is_whole_word(self, word, at):
        """Whether the piece is itself what may stand at this place of the line."""
        if word == "given":
            return True
        if at == 1 and word != "either":
            return is_name(self.piece)
        # Some row's index begins with the piece, so there is a row of this index, too.
        row = self.table.rows[int(self.piece)]
        return (row[0] == "asked") == (word == "either" and at == 1)

    def close(self, sign):
        """Take the word, and the row at the end of the line."""
        self.line_words.append(self.piece)
        if sign == "\n":
            self.take_row(self.line_words)
            self.line_words = []

    def take_row(self, words):
        """Take the row of these words."""
        if words[0] == "either":
            self.sides_gone().count_in(words[3])
        row = row_of_words(words)
        texts = self.asked_texts if words[0] == "asked" else self.part_texts
        texts.count_in(str(self.table.put_in(row)))
        if words[0] == "given":
            self.given_texts.count_in(words[1])
        if not self.has_part():
            self.bare_tests.count_in(words[1])

    def is_all(self):
        """Whether the last line is whole."""
        return len(self.line_words) == 0 and self.piece == ""


def row_of_words(words):
    """The row of a right line."""
    if words[0] in ("made", "asked"):
        return (words[0], words[1], tuple([int(word) for word in words[2:]]))
    return tuple(words[:1] + [int(word) for word in words[1:]])
