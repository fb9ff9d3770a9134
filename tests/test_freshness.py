"""[19.1] to [19.5]: marks, rows that mend, edits."""

import unittest
from itertools import product

from pagestrue.edited import anew, sure, touched
from pagestrue.errors import BadRuns, Unsound
from pagestrue.freshness import marks, mending, mends, one_more, stale_at
from pagestrue.leastuntrue import first_untrue
from pagestrue.pages import Page
from pagestrue.refusals import BadOtherPage
from tests.making import CellMaker, Strange, maker, names_set, sound_cells
from tests.plain import is_sound, over_worlds, plain_row, plain_run


def step(name, does, *names):
    return ("set", name, does, list(names))


def last_things(cells, runs, first, ask):
    """Of each cell what it is to tell, and what its last run told, None without one."""
    top, _ = plain_row(cells, range(len(cells)), {}, ask)
    last, values = [None] * len(cells), {}
    if first is not None:
        last, values = plain_row(first, range(len(first)), {}, ask)
    last = list(last)
    for place in runs:
        run = plain_run(cells[place], values, ask)
        if run is not None:
            values, last[place] = run[0], run[1:]
    return list(zip(top, last))


def plain_marks(cells, runs, first=None):
    """The marks behind the runs; first are cells that were run from the top ahead of them, edited then."""
    worlds = over_worlds(lambda ask: last_things(cells, runs, first, ask))
    told = []
    for place in range(len(cells)):
        pairs = [world[place] for world in worlds]
        if pairs[0][1] is None:
            told.append("none")
        else:
            told.append("fresh" if all(top == last for top, last in pairs) else "stale")
    return told


def plain_stale(cells, runs):
    """The first stale cell, and its first thing that is unlike in some world."""
    worlds = over_worlds(lambda ask: last_things(cells, runs, None, ask))
    for place in range(len(cells)):
        pairs = [world[place] for world in worlds]
        if pairs[0][1] is not None:
            (shown, left), _ = pairs[0]
            for at in range(len(shown)):
                if any(top[0][at] != last[0][at] for top, last in pairs):
                    return (place, "shows", at)
            for name in sorted(left):
                if any(top[1][name] != last[1][name] for top, last in pairs):
                    return (place, "leaves", name)
    return None


def plain_mending(cells, runs, first=None):
    """The least of the shortest rows behind which all is fresh."""
    for many in range(len(cells) + 1):
        for row in product(range(len(cells)), repeat=many):
            if set(plain_marks(cells, [*runs, *row], first)) <= {"fresh"}:
                return list(row)
    return None


def some_page(seed, cells=3):
    """A sound page of cells that read what other ones leave."""
    rng = maker(seed)
    made = CellMaker(rng, calm=rng.choice([0, 0.2, 0.5]))
    told = [[step(name, rng.choice("fg")) for name in rng.sample("abc", rng.randint(1, 3))]]
    standing = names_set(told[0])
    for _ in range(cells - 1):
        cell = []
        while not cell:
            cell = made.block(standing, 3, seed % 2, True)
        standing |= names_set(cell)
        told.append(cell + [("show", rng.choice(sorted(standing)))] * (rng.random() < 0.4))
    return told


class MarksTest(unittest.TestCase):
    def test_against_worlds(self):
        met = {}
        for seed in range(900):
            rng = maker(seed)
            cells = some_page(seed)
            runs = [0] * (seed % 2) + [rng.randrange(3) for _ in range(rng.randint(0, 7))]
            page = Page(cells)
            plain = plain_marks(cells, runs)
            self.assertEqual(marks(page, runs), plain)
            told = stale_at(page, runs)
            self.assertEqual(told, plain_stale(cells, runs))
            self.assertEqual(told is None, "stale" not in plain)
            met[told and told[1]] = met.get(told and told[1], 0) + 1
            again = [rng.randrange(3) for _ in range(rng.randint(0, 4))]
            self.assertIs(mends(page, runs, again), set(plain_marks(cells, runs + again)) == {"fresh"})
            if first_untrue(page) is None:
                self.assertNotIn("stale", plain)
        self.assertGreater(min(met[word] for word in (None, "shows", "leaves")), 30)

    def test_edges(self):
        empty = Page([])
        self.assertEqual((marks(empty, []), stale_at(empty, []), mending(empty, []), one_more(empty, [])),
                         ([], None, [], []))
        self.assertIs(mends(empty, [], []), True)
        page = Page([[step("x", "f")], [], [("show", "x")]])
        self.assertEqual(marks(page, []), ["none"] * 3)
        self.assertEqual(marks(page, [2, 1]), ["none", "fresh", "none"])
        self.assertIsNone(stale_at(page, [2, 1]))
        self.assertEqual(mending(page, [2, 1]), [0, 2])
        self.assertEqual(one_more(page, [2, 1]), [0])
        self.assertEqual(one_more(page, []), [0, 1])
        self.assertIs(mends(page, [2], [1, 0]), False)
        self.assertIs(mends(page, [], [1, 0, 2]), True)
        # A run that missed counts for nothing: the one ahead of it is the last one.
        page = Page([[step("x", "f")], [step("y", "g", "x"), ("show", "y")], [step("x", "h", "x")]])
        self.assertEqual(marks(page, [1, 0, 1, 2]), ["fresh", "fresh", "fresh"])
        self.assertEqual(marks(page, [0, 2, 2, 0, 1]), ["fresh", "fresh", "stale"])
        self.assertEqual(stale_at(page, [0, 2, 2, 0, 1]), (2, "leaves", "x"))

    def test_alike_by_ifs(self):
        """What is another row may be alike all the same."""
        both = [("if", "t", ["x"], [("copy", "y", "x")], [("copy", "y", "x")])]
        cells = [[step("x", "f")], [step("z", "g", "x")], [("if", "t", ["x"], [("copy", "x", "x")],
                                                            [("copy", "x", "x")])],
                 both + [("show", "y")]]
        self.assertEqual(marks(Page(cells), [0, 2, 3, 2, 1, 3]), ["fresh"] * 4)
        swapped = [[step("x", "f"), step("y", "g")],
                   [("if", "t", [], [("copy", "a", "x"), ("copy", "b", "y")],
                     [("copy", "a", "y"), ("copy", "b", "x")])],
                   [("if", "t", [], [("copy", "c", "a")], [("copy", "c", "b")]), ("copy", "x", "c"), ("show", "x")]]
        # Whatever the test says, c is x: so cell 2 leaves x as it was.
        self.assertEqual(marks(Page(swapped), [0, 1, 2, 1, 2, 2]), ["fresh"] * 3)

    def test_wrong_things(self):
        page = Page([[step("x", "f")]])
        for runs in (None, "0", [1], [True], [-1], 0, {0: 0}, [Strange()]):
            for function, passed in ((marks, (runs,)), (stale_at, (runs,)), (mends, (runs, None)), (mends, ([0], runs)),
                                     (mending, (runs,)), (one_more, (runs,))):
                with self.assertRaises(BadRuns) as caught:
                    function(page, *passed)
                self.assertIs(caught.exception.runs, runs)
        with self.assertRaises(Unsound):
            mends(Page([[("show", "x")]]), None, None)


class MendingTest(unittest.TestCase):
    def test_all_rows_that_mend(self):
        met = {}
        for seed in range(180):
            rng = maker(seed)
            cells = some_page(seed)
            runs = [rng.randrange(3) for _ in range(rng.randint(0, 5))]
            page = Page(cells)
            row = plain_mending(cells, runs)
            self.assertEqual(mending(page, runs), row)
            begins = [cell for cell in range(3) if row and len(plain_mending(cells, runs + [cell])) == len(row) - 1]
            self.assertEqual(one_more(page, runs), begins)
            self.check_row(cells, page, runs, row)
            met[len(row)] = met.get(len(row), 0) + 1
        self.assertGreater(min(met.values()), 8)

    def check_row(self, cells, page, runs, row):
        """It mends; no run in it misses, none may be left out; each stale cell stands in it."""
        self.assertIs(mends(page, runs, row), True)
        self.assertLessEqual(len(row), len(cells))
        for at in range(len(row)):
            self.assertIs(mends(page, runs, row[:at] + row[at + 1:]), False)
        for place, mark in enumerate(marks(page, runs)):
            self.assertTrue(mark == "fresh" or place in row)
        told, _ = plain_row(cells, [*runs, *row], {}, lambda test, terms: False)
        self.assertNotIn(None, told[len(runs):])
        if row:
            self.assertEqual(one_more(page, runs)[0], row[0])
            for cell in range(len(cells)):
                shorter = len(mending(page, [*runs, cell])) == len(row) - 1
                self.assertEqual(shorter, cell in one_more(page, runs))

    def test_greater_pages(self):
        for seed in range(60):
            rng = maker(seed)
            cells = sound_cells(seed, cells=6, depth=seed % 2, many=2, values=3, calm=0.3)
            runs = [rng.randrange(6) for _ in range(rng.randint(0, 12))]
            page = Page(cells)
            self.check_row(cells, page, runs, mending(page, runs))


class EditTest(unittest.TestCase):
    def edited(self, seed):
        """A page and an edit of it, of as many cells."""
        rng = maker(seed)
        cells = some_page(seed)
        other = some_page(seed + 5000)
        dice = rng.random()
        if dice < 0.2:
            return cells, other
        mixed = [rng.choice([one, one, its]) for one, its in zip(cells, other)]
        if dice < 0.4:
            at = rng.randrange(3)
            mixed[at] = mixed[at] + [step(rng.choice("ab"), "new")]
        if not is_sound(mixed):
            mixed = cells[:2] + [cells[2] + cells[2]]
        return cells, mixed

    def test_against_worlds(self):
        met = {}
        for seed in range(300):
            cells, mixed = self.edited(seed)
            page, other = Page(cells), Page(mixed)
            marked = plain_marks(mixed, [], cells)
            told = [place for place in range(3) if marked[place] != "fresh"]
            self.assertEqual(touched(page, other), told)
            self.check_sure(cells, mixed, told)
            row = plain_mending(mixed, [], cells)
            self.assertEqual(anew(page, other), row)
            self.assertTrue(set(told) <= set(row))
            self.assertEqual(row == [], told == [])
            met[len(row)] = met.get(len(row), 0) + 1
        self.assertGreater(min(met.values()), 8)

    def left_last(self, cells, place):
        """The dict from the names that a cell reads from ahead to who left each last."""
        told = {}
        names = set()
        for name in "abcdegh":
            run = plain_run(cells[place], {one: (one, ()) for one in "abcdegh" if one != name}, lambda test,
                            terms: False)
            if run is None:
                names.add(name)
        for at in range(place):
            for name in names & names_set(cells[at]):
                told[name] = at
        return told

    def check_sure(self, cells, mixed, told):
        """The greatest lot, by all lots; none of it is touched; who is touched hangs on one that is."""
        like = [place for place in range(3) if cells[place] == mixed[place]]
        fitting = []
        for bits in product((0, 1), repeat=len(like)):
            lot = [place for place, bit in zip(like, bits) if bit]
            if all(self.left_last(cells, place) == self.left_last(mixed, place)
                   and set(self.left_last(cells, place).values()) <= set(lot) for place in lot):
                fitting.append(lot)
        greatest = sure(Page(cells), Page(mixed))
        self.assertEqual(greatest, max(fitting, key=len))
        self.assertTrue(all(set(lot) <= set(greatest) for lot in fitting))
        self.assertFalse(set(greatest) & set(told))
        for place in set(like) & set(told):
            mine, its = self.left_last(cells, place), self.left_last(mixed, place)
            unlike = [name for name in mine if mixed[its[name]] != cells[mine[name]] or its[name] in told]
            self.assertTrue(unlike)

    def test_edges(self):
        cells = [[step("x", "f")], [step("y", "g", "x"), ("show", "y")], [step("x", "h", "x")]]
        page = Page(cells)
        self.assertEqual((touched(page, page), sure(page, page), anew(page, page)), ([], [0, 1, 2], []))
        self.assertEqual((touched(Page([]), Page([])), sure(Page([]), Page([])), anew(Page([]), Page([]))),
                         ([], [], []))
        # An edit that touches nothing: another text that shows and leaves the same.
        other = Page([cells[0], [("copy", "z", "x"), step("y", "g", "z"), ("show", "y")], cells[2]])
        self.assertEqual(touched(page, other), [1])
        other = Page([cells[0], [step("y", "g", "x"), ("copy", "y", "y"), ("show", "y")], cells[2]])
        self.assertEqual((touched(page, other), sure(page, other), anew(page, other)), ([], [0, 2], []))
        # One more thing shown, another name left.
        self.assertEqual(touched(page, Page([cells[0], cells[1] + [("show", "y")], cells[2]])), [1])
        self.assertEqual(touched(page, Page([cells[0] + [step("w", "f")], cells[1], cells[2]])), [0])
        # Names that the edited page does not leave any more still stand.
        self.assertEqual(anew(page, Page([[step("w", "f")], [], []])), [0, 1, 2])

    def test_wrong_others(self):
        page = Page([[step("x", "f")], [("show", "x")]])
        unsound = Page([[("show", "x")], [step("x", "f")]])
        for function in (touched, sure, anew):
            for other in (None, page.cells(), Page([]), Page([[], [], []]), unsound, "page", Strange()):
                with self.assertRaises(BadOtherPage) as caught:
                    function(page, other)
                self.assertIs(caught.exception.other, other)
            with self.assertRaises(Unsound) as caught:
                function(unsound, None)
            self.assertEqual(caught.exception.index, 0)


if __name__ == "__main__":
    unittest.main()
