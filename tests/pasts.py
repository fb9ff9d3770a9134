"""Pages with numbers that the tests make themselves, and plain searches through all their histories."""

from itertools import product

from pagestrue.pages import Page
from tests.making import any_cells, maker, names_set, reading_cells, sound_cells
from tests.plain import plain_run


def never(test, terms):
    raise AssertionError("no tests here")


def has_given(term):
    """Whether some given part stands in a term."""
    return term[0] == "given" or any(has_given(one) for one in term[1])


class Past:
    """A small page with its numbers, and what all its histories show, as terms."""

    def __init__(self, seed, cells=3, most_gaps=3, most_strangers=0, shows=0.5):
        rng = maker(seed)
        made = [any_cells(seed, cells=cells, depth=0, calm=0.3), reading_cells(seed, cells, 2),
                sound_cells(seed, cells=cells, calm=0.3), sound_cells(seed, cells=cells, many=3, calm=0.6)][seed % 4]
        self.cells = []
        standing = set()
        for cell in made:
            standing |= names_set(cell)
            more = [("show", rng.choice(sorted(standing)))] if standing and rng.random() < shows else []
            self.cells.append(list(cell) + more)
        is_begun = rng.random() < 0.6
        if is_begun:
            # Behind its first run no name stands for what stood ahead.
            self.cells[0] = [("set", name, rng.choice("fg"), []) for name in "abc"]
        self.page = Page(self.cells)
        run = [place for place in range(cells) if rng.random() < 0.85 and (place or not is_begun)]
        times = sorted(rng.sample(range(1, len(run) + rng.randint(0, most_gaps) + 1), len(run)))
        if rng.random() < 0.5:
            rng.shuffle(times)
        if is_begun:
            run, times = [0] + run, [1] + [time + 1 for time in times]
        self.numbers = [0] * cells
        for place, time in zip(run, times):
            self.numbers[place] = time
        self.last = max(self.numbers)
        self.gaps = [at for at in range(1, self.last) if at not in self.numbers]
        self.strangers = sorted(rng.sample(self.gaps, min(len(self.gaps), rng.randint(0, most_strangers))))
        self.names = sorted({name for cell in self.cells for one in cell for name in names_in(one)})
        self.passed = (self.page, self.numbers)
        self.with_strangers = (self.page, self.numbers, self.strangers)

    def histories(self, strangers=()):
        """All lists of places, and None, that are histories, word by word."""
        told = []
        places = list(range(len(self.cells)))
        for history in product([None] + places, repeat=self.last):
            if all(self.may_run(at + 1, place, strangers) for at, place in enumerate(history)):
                told.append(list(history))
        return told

    def may_run(self, number, place, strangers):
        if place is None:
            return number in strangers
        if number in self.numbers:
            return self.numbers[place] == number
        return self.numbers[place] > number

    def run(self, history):
        """The values ahead of the first run and behind each one, and what each cell's last run shows."""
        values = {name: ("given", at) for at, name in enumerate(self.names)}
        told = [values]
        shown = [None] * len(self.cells)
        for at, place in enumerate(history):
            if place is None:
                values = {name: ("given", (at + 1) * len(self.names) + place)
                          for place, name in enumerate(self.names)}
            else:
                values, mine, _ = plain_run(self.cells[place], values, never)
                if self.numbers[place] == at + 1:
                    shown[place] = mine
            told.append(values)
        return told, shown

    def things(self):
        """All pairs of a cell that ran and the index of a thing that it shows."""
        return [(place, at) for place, cell in enumerate(self.cells) if self.numbers[place]
                for at in range(sum(one[0] == "show" for one in cell))]

    def common(self, terms):
        """The one known term of all these, else None."""
        return terms[0] if not has_given(terms[0]) and all(one == terms[0] for one in terms) else None


def names_in(statement):
    return [statement[1], *statement[3]] if statement[0] == "set" else statement[1:]


def some_pasts(many, **kinds):
    return [Past(seed, **kinds) for seed in range(many)]
