"""[8.5], [8.6]: live statements, fewest cells."""

import unittest
from itertools import combinations

from pagestrue.liveparts import fewest_cells, live_page, live_statements
from pagestrue.pages import Page
from pagestrue.tops import first_miss, top
from tests.making import maker, sound_cells
from tests.plain import is_sound, plain_row


def never(test, terms):
    raise AssertionError("no tests here")


def shown_by(cells):
    """What each cell shows from the top, as terms."""
    return [run[0] for run in plain_row(cells, range(len(cells)), {}, never)[0]]


def some_pages(many, **kinds):
    return [sound_cells(seed, depth=0, many=3, steps=seed % 2 + 1, calm=seed % 3 * 0.4, **kinds)
            for seed in range(many)]


def plain_live(cells, places):
    """Word by word: a show of these cells, or what a live one reads ahead of the next one that sets it."""
    line = [(place, at) for place, cell in enumerate(cells) for at in range(len(cell))]
    live = {pair for pair in line if pair[0] in places and cells[pair[0]][pair[1]][0] == "show"}
    while True:
        more = set(live)
        for here, pair in enumerate(line):
            statement = cells[pair[0]][pair[1]]
            if statement[0] == "show":
                continue
            for later in line[here + 1:]:
                other = cells[later[0]][later[1]]
                reads = other[3] if other[0] == "set" else list(other[-1:])
                if later in live and statement[1] in reads:
                    more.add(pair)
                if other[0] != "show" and other[1] == statement[1]:
                    break
        if more == live:
            return sorted(live)
        live = more


class LiveTest(unittest.TestCase):
    def test_word_by_word(self):
        for seed, cells in enumerate(some_pages(200, cells=4)):
            page = Page(cells)
            for many in range(5):
                places = sorted(maker(seed + many).sample(range(4), many))
                told = live_statements(page, places)
                self.assertEqual(told, plain_live(cells, places))
                live = live_page(page, places)
                self.assertEqual(live.cells(), [[statement for at, statement in enumerate(cell)
                                                 if (place, at) in told] for place, cell in enumerate(cells)])

    def test_the_live_page_shows_the_same(self):
        for seed, cells in enumerate(some_pages(200, cells=4)):
            page = Page(cells)
            places = sorted(maker(seed).sample(range(4), seed % 5))
            live = live_page(page, places)
            self.assertIsNone(first_miss(live))
            mine, its = shown_by(cells), shown_by(live.cells())
            for place in places:
                self.assertEqual(mine[place], its[place])
            told = live_statements(live, places)
            self.assertEqual(told, [(place, at) for place, cell in enumerate(live.cells())
                                    for at in range(len(cell))])

    def test_edges(self):
        self.assertEqual(live_statements(Page([]), []), [])
        self.assertEqual(live_page(Page([]), []), Page([]))
        page = Page([[("set", "x", "f", []), ("set", "x", "g", ["x"]), ("copy", "x", "x"), ("show", "x"),
                      ("set", "x", "h", [])], [("set", "y", "f", [])]])
        self.assertEqual(live_statements(page, [0]), [(0, 0), (0, 1), (0, 2), (0, 3)])
        self.assertEqual(live_statements(page, [1]), [])
        self.assertEqual(live_statements(page, []), [])
        self.assertEqual(live_page(page, [1]), Page([[], []]))


class FewestTest(unittest.TestCase):
    def plainly(self, cells, place):
        """The first one of the shortest lists, of all lots of cells."""
        shown = shown_by(cells)[place]
        for many in range(1, len(cells) + 1):
            for lot in combinations(range(len(cells)), many):
                alone = [cells[at] for at in lot]
                if place in lot and is_sound(alone) and shown_by(alone)[lot.index(place)] == shown:
                    return list(lot)

    def test_by_all_lots(self):
        fewer = 0
        for cells in some_pages(150, cells=4) + some_pages(60, cells=5, values=2):
            page = Page(cells)
            for place in range(len(cells)):
                told = fewest_cells(page, place)
                self.assertEqual(told, self.plainly(cells, place))
                live = sorted({pair[0] for pair in live_statements(page, [place])} | {place})
                if shown_by(cells)[place] and is_sound([cells[at] for at in live]):
                    alone = shown_by([cells[at] for at in live])
                    self.assertEqual(alone[live.index(place)], shown_by(cells)[place])
                    fewer += len(told) < len(live)
        self.assertGreater(fewer, 0)

    def test_like_parts_of_another_cell(self):
        page = Page([[("set", "x", "f", [])], [("set", "z", "f", []), ("set", "x", "f", []), ("set", "w", "g", [])],
                     [("copy", "x", "z")], [("show", "x")]])
        self.assertEqual(live_statements(page, [3]), [(1, 0), (2, 0), (3, 0)])
        self.assertEqual(fewest_cells(page, 3), [0, 3])
        self.assertEqual(top(page)[1][3], [0])

    def test_a_cell_that_shows_nothing(self):
        page = Page([[("set", "x", "f", [])], [("set", "y", "f", ["x"])], []])
        self.assertEqual(fewest_cells(page, 0), [0])
        self.assertEqual(fewest_cells(page, 1), [0, 1])
        self.assertEqual(fewest_cells(page, 2), [2])


if __name__ == "__main__":
    unittest.main()
