"""A desk: a page, what was run and what stands, kept through edits, undone and done again."""

from pagestrue.cellforms import judged_cell, told_statements
from pagestrue.cellruns import ascending
from pagestrue.deskstates import DeskState
from pagestrue.refusals import BadPut, NoTag
from pagestrue.words import is_number, is_place


class Desk:
    """Cells with tags, run in whatever order; each deed makes a state, the ones ahead are kept."""

    def __init__(self):
        self.now = DeskState((), (), {}, {}, {}, 0)
        self.next_tag = 0
        self.past = []
        self.future = []

    def put(self, place, cell):
        """Put a cell at the place of the page: its tag."""
        self.refuse_place(place, len(self.now.cards) + 1)
        card = (self.next_tag, judged_cell(cell))
        cards = self.now.cards
        self.deed("put", self.now.with_cards(cards[:place] + (card,) + cards[place:]))
        # Not even an undo gives a tag back.
        self.next_tag += 1
        return card[0]

    def edit(self, tag, cell):
        """Put another cell in the place of this one: the cell that was there."""
        at = self.place_of(tag)
        card = (tag, judged_cell(cell))
        return self.exchange("edit", at, (card,))

    def move(self, tag, place):
        """Take the cell out and put it in at the place: the cell."""
        at = self.place_of(tag)
        cards = self.now.cards
        self.refuse_place(place, len(cards))
        others = cards[:at] + cards[at + 1:]
        self.deed("move", self.now.with_cards(others[:place] + (cards[at],) + others[place:]))
        return told_statements(cards[at][1])

    def drop(self, tag):
        """Take the cell away: the cell that was there."""
        return self.exchange("drop", self.place_of(tag), ())

    def tags(self):
        """The tags in the page's order."""
        return self.now.all_tags()

    def as_page(self):
        """The page of the cells."""
        return self.now.page_now()

    def run(self, tag):
        """Run the cell over what stands: the parts that it shows, None for a miss."""
        self.place_of(tag)
        behind = self.now.behind_run(tag)
        if behind is None:
            return None
        self.deed("run", behind)
        return list(behind.last_shown(tag))

    def restart(self):
        """Let go all that stands, was shown, and the numbers."""
        self.deed("restart", self.now.begun_anew())

    def stands(self):
        """The web and the stand of now."""
        return (list(self.now.rows), ascending(self.now.stand))

    def numbers(self):
        """The cells' last numbers in the page's order, 0 for none that counts."""
        return self.now.last_numbers()

    def shown(self, tag):
        """What the cell showed last, None without a run."""
        self.place_of(tag)
        parts = self.now.last_shown(tag)
        return None if parts is None else list(parts)

    def judged(self):
        """For each cell "none", "gone", "true" or "untrue": what it showed last."""
        return self.now.shown_words()

    def left(self):
        """The dict from the names that stand to "gone", "true" or "untrue"."""
        return self.now.left_words()

    def handed(self):
        """The page and the numbers of now."""
        return (self.as_page(), self.numbers())

    def undo(self):
        """Take the last deed back: its word, None without one."""
        if len(self.past) == 0:
            return None
        word, ahead = self.past.pop()
        self.future.append((word, self.now))
        self.now = ahead
        return word

    def redo(self):
        """Do again what was last taken back: its word, None without any."""
        if len(self.future) == 0:
            return None
        word, behind = self.future.pop()
        self.past.append((word, self.now))
        self.now = behind
        return word

    def copy(self):
        """Another desk with all of this one."""
        other = Desk()
        other.now = self.now
        other.next_tag = self.next_tag
        other.past = list(self.past)
        other.future = list(self.future)
        return other

    def __eq__(self, other):
        return isinstance(other, Desk) and self.all_likes() == other.all_likes()

    def all_likes(self):
        """All by which two desks are equal: what there is now, and what can be redone."""
        return (self.now.all_told(), [(word, state.all_told()) for word, state in self.future])

    def deed(self, word, behind):
        """Do a deed by which the desk comes to be so; what was taken back is gone."""
        self.past.append((word, self.now))
        self.future = []
        self.now = behind

    def exchange(self, word, at, cards):
        """Put these cells in the place of the one there: the cell that was there."""
        old = self.now.cards
        state = self.now.forgetting(old[at][0])
        self.deed(word, state.with_cards(old[:at] + cards + old[at + 1:]))
        return told_statements(old[at][1])

    def place_of(self, tag):
        """The place of the cell with this tag."""
        if not is_number(tag) or tag not in self.tags():
            raise NoTag(tag)
        return self.tags().index(tag)

    def refuse_place(self, place, many):
        """Raise BadPut for what is none of so many places."""
        if not is_place(place, many):
            raise BadPut(place)
