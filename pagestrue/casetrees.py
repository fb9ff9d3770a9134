"""Case trees: why two parts are alike, test by test.

Along a tree truths are kept by the test and the values of its needs, not by the row that is
asked: so each asked row with like needs is known, too, wherever it stands in the web.
"""

from pagestrue.alikeparts import judged_two
from pagestrue.likeness import Likeness
from pagestrue.meanings import key_of
from pagestrue.words import is_list, is_place


class Cases:
    """The values of a web's rows, numbered the same at all places of a tree."""

    def __init__(self, rows):
        self.rows = rows
        self.counted = {}

    def worths(self, truths):
        """Of each row its value or truth as far as the truths tell, None for an unknown one."""
        worths = []
        for row in self.rows:
            worths.append(self.worth(row, worths, truths))
        return worths

    def worth(self, row, worths, truths):
        """The value or the truth of a row, by those of the rows ahead of it."""
        if row[0] == "either":
            truth = worths[row[1]]
            return None if truth is None else worths[row[2] if truth else row[3]]
        key = row if row[0] == "given" else key_of(row, worths)
        if row[0] != "given" and None in key[2]:
            return None
        if row[0] == "asked":
            return truths.get(key)
        return self.counted.setdefault(key, len(self.counted))

    def with_truth(self, truths, asked, worths, truth):
        """The truths and one more, of an asked row of known needs."""
        more = dict(truths)
        more[key_of(self.rows[asked], worths)] = truth
        return more

    def wanted(self, worths, part):
        """An unknown asked row of known needs on which an unknown part hangs."""
        at = part
        while True:
            row = self.rows[at]
            if row[0] == "either":
                truth = worths[row[1]]
                at = row[1] if truth is None else row[2 if truth else 3]
            else:
                unknown = [its for its in row[2] if worths[its] is None]
                if not unknown:
                    return at
                at = unknown[0]

    def grown(self, one, other, truths):
        """A case tree of parts that are alike."""
        worths = self.worths(truths)
        if worths[one] is not None and worths[other] is not None:
            return ("like",)
        asked = self.wanted(worths, other if worths[one] is not None else one)
        sides = []
        for truth in (False, True):
            more = self.with_truth(truths, asked, worths, truth)
            sides.append(self.grown(one, other, more))
        return ("asked", asked, sides[0], sides[1])

    def is_leaf(self, one, other, worths):
        """Whether both parts are known and have one value."""
        return worths[one] is not None and worths[one] == worths[other]

    def may_ask(self, thing, worths):
        """Whether it is an unknown asked row of known needs."""
        if not is_place(thing, len(self.rows)) or self.rows[thing][0] != "asked":
            return False
        return worths[thing] is None and None not in key_of(self.rows[thing], worths)[2]

    def takes(self, one, other, thing):
        """Whether it is a case tree of both parts."""
        todo = [(thing, {})]
        while todo:
            tree, truths = todo.pop()
            worths = self.worths(truths)
            if is_word(tree, "like", 1):
                if not self.is_leaf(one, other, worths):
                    return False
            elif is_word(tree, "asked", 4) and self.may_ask(tree[1], worths):
                todo.append((tree[3], self.with_truth(truths, tree[1], worths, True)))
                todo.append((tree[2], self.with_truth(truths, tree[1], worths, False)))
            else:
                return False
        return True


def is_word(thing, word, many):
    """Whether it is a list of so many things that begins with the word."""
    if not is_list(thing) or len(thing) != many:
        return False
    return isinstance(thing[0], str) and thing[0] == word


def is_case_tree(web, one, other, thing):
    """Whether it is a case tree of both parts."""
    return Cases(judged_two(web, one, other).rows).takes(one, other, thing)


def case_tree(web, one, other):
    """A case tree of both parts, None if they are not alike."""
    rows = judged_two(web, one, other).rows
    # The judge adds rows of its own, which no tree may ask.
    if not Likeness(judged_two(web, one, other)).alike(one, other):
        return None
    return Cases(rows).grown(one, other, {})
