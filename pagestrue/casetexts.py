"""Case trees as text: written, read, and where a text first goes wrong."""

from pagestrue.alikeparts import judged_two
from pagestrue.casetrees import Cases
from pagestrue.likeness import Likeness
from pagestrue.refusals import BadCasesText, BadTree
from pagestrue.signscans import Beginnings, SignScan, scan_fault, whole_lines


def cases_text(web, one, other, tree):
    """The case tree as a line for each place, with as many dots as it is deep."""
    if not Cases(judged_two(web, one, other).rows).takes(one, other, tree):
        raise BadTree(tree)
    lines = []
    todo = [(tree, 0)]
    while todo:
        place, depth = todo.pop()
        words = ["." * depth] if depth > 0 else []
        if place[0] == "like":
            words.append("like")
        else:
            words.extend(["asked", str(place[1])])
            todo.append((place[3], depth + 1))
            todo.append((place[2], depth + 1))
        lines.append(" ".join(words) + "\n")
    return "".join(lines)


def read_cases(web, one, other, text):
    """The case tree with just this text."""
    fault = cases_text_fault(web, one, other, text)
    if fault is not None:
        raise BadCasesText(fault[0], fault[1])
    # From the last line back: behind an asked row stand its no side, then its yes side.
    trees = []
    for words in whole_lines(text)[::-1]:
        if words[-1] == "like":
            trees.append(("like",))
        else:
            no = trees.pop()
            trees.append(("asked", int(words[-1]), no, trees.pop()))
    return trees[0]


def cases_text_fault(web, one, other, text):
    """None for a case tree's text, else the line and the sign where it first goes wrong."""
    rows = judged_two(web, one, other).rows
    # The judge adds rows of its own, which no tree may ask.
    is_like = Likeness(judged_two(web, one, other)).alike(one, other)
    return scan_fault(CasesScan(rows, one, other, is_like), text)


class CasesScan(SignScan):
    """The places of the tree that are still to come, each with its depth and truths."""

    def __init__(self, rows, one, other, is_like):
        SignScan.__init__(self)
        self.cases = Cases(rows)
        self.one = one
        self.other = other
        # Parts that are not alike have no tree at all; those that are have one whatever is asked.
        self.is_like = is_like
        self.todo = [(0, {})] if is_like else []
        self.line_words = []
        self.place_words = []
        self.row_words = {}
        self.row_texts = Beginnings([])
        self.look_here()

    def look_here(self):
        """Look at the next place: which words, which rows may stand there."""
        if not self.todo:
            self.place_words = []
            return
        worths = self.cases.worths(self.todo[-1][1])
        asked = [at for at in range(len(worths)) if self.cases.may_ask(at, worths)]
        self.row_words = {str(at): True for at in asked}
        self.row_texts = Beginnings(list(self.row_words))
        self.place_words = ["asked"] if asked else []
        if self.cases.is_leaf(self.one, self.other, worths):
            self.place_words.append("like")

    def choices_here(self):
        """Which words may stand here but for rows."""
        depth = self.todo[-1][0] if self.todo else 0
        return ["." * depth] if depth > 0 and not self.line_words else self.place_words

    def is_row_due(self):
        """Whether an asked row is due here."""
        return len(self.line_words) > 0 and self.line_words[-1] == "asked"

    def may_begin(self, text):
        """Whether some word that may stand here begins with the text."""
        if self.is_row_due():
            return self.row_texts.how_many(text) > 0
        return any([word.startswith(text) for word in self.choices_here()])

    def may_end(self, sign):
        """Whether the word is whole, and the sign may stand behind it."""
        if self.is_row_due():
            return sign == "\n" and self.piece in self.row_words
        return self.piece in self.choices_here() and sign == ("\n" if self.piece == "like" else " ")

    def close(self, sign):
        """Take the word, and the place at the end of the line."""
        self.line_words.append(self.piece)
        if sign == "\n":
            depth, truths = self.todo.pop()
            if self.piece != "like":
                self.ask(int(self.piece), depth + 1, truths)
            self.line_words = []
            self.look_here()

    def ask(self, at, depth, truths):
        """Let both sides of the asked row come, No ahead of Yes."""
        worths = self.cases.worths(truths)
        for truth in (True, False):
            self.todo.append((depth, self.cases.with_truth(truths, at, worths, truth)))

    def is_all(self):
        """Whether all places were read."""
        return self.is_like and not self.todo
