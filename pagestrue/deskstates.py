"""What a desk holds at one moment: never changed, a deed makes another one."""

from pagestrue.cellforms import told_statements
from pagestrue.cellruns import ascending, run_cell
from pagestrue.likeness import Likeness
from pagestrue.pages import Page
from pagestrue.rowtables import RowTable
from pagestrue.topruns import refuse_unsound, run_top


class DeskState:
    """Cells with tags, what stands, what each cell's last run was, who left each name last.

    A last run is a pair of its number, 0 if the cell was edited since, and what it showed.
    Who left a name is a tag, None if that cell was edited or dropped since.
    """

    def __init__(self, cards, rows, stand, last_runs, leavers, many):
        self.cards = cards
        self.rows = rows
        self.stand = stand
        self.last_runs = last_runs
        self.leavers = leavers
        self.many = many

    def all_tags(self):
        """The tags in the page's order."""
        return [tag for tag, _ in self.cards]

    def cell_forms(self):
        """The cells, as tuples, in the page's order."""
        return tuple([form for _, form in self.cards])

    def page_now(self):
        """The page of the cells."""
        return Page([told_statements(form) for _, form in self.cards])

    def form_of(self, tag):
        """The cell with the tag, as tuples."""
        return dict(self.cards)[tag]

    def last_numbers(self):
        """Of each cell the number of its last run, 0 without one that counts."""
        return [self.last_runs[tag][0] if tag in self.last_runs else 0 for tag in self.all_tags()]

    def last_shown(self, tag):
        """What the cell's last run showed, None without one."""
        return self.last_runs[tag][1] if tag in self.last_runs else None

    def all_told(self):
        """All by which two of these are like each other."""
        showns = [self.last_shown(tag) for tag in self.all_tags()]
        return (self.cards, self.last_numbers(), showns, self.rows, self.stand)

    def with_cards(self, cards):
        """The same with other cells."""
        return DeskState(cards, self.rows, self.stand, self.last_runs, self.leavers, self.many)

    def begun_anew(self):
        """The same cells, and nothing run."""
        return DeskState(self.cards, (), {}, {}, {}, 0)

    def forgetting(self, tag):
        """The same, where the cell that left what it left is no more."""
        leavers = {name: None if self.leavers[name] == tag else self.leavers[name] for name in self.leavers}
        last_runs = dict(self.last_runs)
        if tag in last_runs:
            last_runs[tag] = (0, last_runs[tag][1])
        return DeskState(self.cards, self.rows, self.stand, last_runs, leavers, self.many)

    def behind_run(self, tag):
        """What comes of a run of the cell, None for a miss."""
        table = RowTable(self.rows)
        went = run_cell(table, self.stand, self.form_of(tag))
        if went is None:
            return None
        stand, shows, left = went
        leavers = dict(self.leavers)
        for name in left:
            leavers[name] = tag
        last_runs = dict(self.last_runs)
        last_runs[tag] = (self.many + 1, tuple(shows))
        return DeskState(self.cards, tuple(table.rows), stand, last_runs, leavers, self.many + 1)

    def top_beside(self):
        """What each cell shows and leaves in the run from the top, and the judge of both's likeness."""
        refuse_unsound(self.cell_forms())
        table = RowTable(self.rows)
        showns, lefts, _ = run_top(table, {}, self.cell_forms())
        return (showns, lefts, Likeness(table))

    def shown_words(self):
        """The word of each cell for what it showed last."""
        showns, _, likeness = self.top_beside()
        told = []
        for tag, top_parts in zip(self.all_tags(), showns):
            if tag not in self.last_runs:
                told.append("none")
            elif self.last_runs[tag][0] == 0:
                told.append("gone")
            else:
                parts = self.last_runs[tag][1]
                told.append(true_word([likeness.alike(one, other) for one, other in zip(parts, top_parts)]))
        return told

    def left_words(self):
        """The dict, ascending, from what stands to its word."""
        _, lefts, likeness = self.top_beside()
        tops = dict(list(zip(self.all_tags(), lefts)))
        told = {}
        for name, part in ascending(self.stand).items():
            tag = self.leavers[name]
            told[name] = "gone" if tag is None else true_word([likeness.alike(part, tops[tag][name])])
        return told


def true_word(oks):
    """The word of what is as in the run from the top, or not."""
    return "true" if all(oks) else "untrue"
