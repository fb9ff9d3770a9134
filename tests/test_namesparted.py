"""[8.1] to [8.4]: names parted."""

import unittest
from itertools import product

from pagestrue.cellmatters import mattering
from pagestrue.cellnames import sets_of
from pagestrue.namesparted import clashes, fewest_names, is_parting, least_parting, needs_by, parted
from pagestrue.pages import Page, names_of
from pagestrue.tops import top
from pagestrue.twobehind import untrue_pair
from tests.making import maker, sound_cells
from tests.plain import plain_row


def some_pages(many, **kinds):
    return [sound_cells(seed, depth=0, many=3, steps=1, calm=seed % 3 * 0.4, **kinds)
            for seed in range(many)]


def pairs_of(cells):
    return [(place, name) for place, cell in enumerate(cells) for name in sets_of(cell)]


def all_partings(cells):
    """All partings, but for how the numbers are called."""
    pairs = pairs_of(cells)
    for numbers in product(*[range(sum(name == other[1] for other in pairs[:at + 1]))
                             for at, (_, name) in enumerate(pairs)]):
        yield dict(zip(pairs, numbers))


def many_names(parting):
    return len({(name, number) for (_, name), number in parting.items()})


class NeedsTest(unittest.TestCase):
    def test_not_all_overwritten(self):
        page = Page([[("set", "a", "f", []), ("set", "b", "f", []), ("set", "c", "f", [])],
                     [("set", "x", "g", ["a"]), ("copy", "y", "b"), ("set", "x", "f", []), ("show", "c")],
                     [("set", "a", "g", ["a"])], [("copy", "b", "b")], [("set", "b", "f", []), ("show", "b")]])
        self.assertEqual(needs_by(page), [[], ["b", "c"], ["a"], ["b"], []])

    def test_they_are_those_that_matter(self):
        for cells in some_pages(200):
            self.assertEqual(needs_by(Page(cells)), [mattering(cell) for cell in cells])

    def test_no_cells(self):
        page = Page([])
        self.assertEqual((needs_by(page), clashes(page), fewest_names(page)), ([], [], 0))
        self.assertEqual(least_parting(page), {})
        self.assertEqual(parted(page, {}), (page, {}))
        self.assertIs(is_parting(page, {}), True)


class ClashTest(unittest.TestCase):
    def test_plainly(self):
        for cells in some_pages(200):
            def never(test, terms):
                raise AssertionError("no tests here")
            runs = plain_row(cells, range(len(cells)), {}, never)[0]
            found = []
            for k, cell in enumerate(cells):
                ahead = plain_row(cells, range(k), {}, never)[1]
                for name in mattering(cell):
                    found += [(j, k, name) for j, run in enumerate(runs)
                              if name in run[1] and run[1][name] != ahead[name]]
            told = clashes(Page(cells))
            self.assertEqual(told, sorted(found))
            self.assertEqual(told == [], untrue_pair(Page(cells)) is None)

    def test_one_cell_with_itself(self):
        page = Page([[("set", "x", "f", [])], [("set", "x", "f", ["x"])]])
        self.assertEqual(clashes(page), [(1, 1, "x")])
        page = Page([[("set", "x", "f", [])], [("copy", "x", "x")]])
        self.assertEqual(clashes(page), [])


class PartedTest(unittest.TestCase):
    def test_each_name_anew(self):
        page = Page([[("set", "x", "f", []), ("set", "y", "f", ["x"])],
                     [("set", "x", "g", ["x", "y"]), ("show", "x"), ("copy", "x", "x"), ("show", "y")],
                     [("copy", "y", "x"), ("show", "y")]])
        parting = {(0, "x"): 5, (1, "x"): 0, (0, "y"): 0, (2, "y"): 10 ** 40}
        told, names = parted(page, parting)
        self.assertEqual(list(names), [("x", 0), ("x", 5), ("y", 0), ("y", 10 ** 40)])
        self.assertEqual(len(set(names.values())), 4)
        new, old, low, high = names.values()
        self.assertEqual(told.cells(), [
            [("set", old, "f", []), ("set", low, "f", [old])],
            [("set", new, "g", [old, low]), ("show", new), ("copy", new, new), ("show", low)],
            [("copy", high, new), ("show", high)]])

    def test_the_top_stays(self):
        for seed, cells in enumerate(some_pages(150)):
            rng = maker(seed)
            page = Page(cells)
            parting = {pair: rng.randrange(3) for pair in pairs_of(cells)}
            self.assertIs(is_parting(page, parting), True)
            told, names = parted(page, parting)
            self.assertEqual(set(names), {(name, parting[(at, name)]) for at, name in parting})
            self.assertEqual(list(names), sorted(names))
            self.assertEqual(names_of(told)[0], sorted(names.values()))
            mine, its = top(page), top(told)
            self.assertEqual(its[:2], mine[:2])
            for at, left in enumerate(mine[2]):
                self.assertEqual(its[2][at], {names[(x, parting[(at, x)])]: left[x] for x in left})

    def test_is_parting(self):
        page = Page([[("set", "x", "f", []), ("copy", "x", "x")], [("set", "y", "f", [])]])
        for thing in [{(0, "x"): 0, (1, "y"): 0}, {(1, "y"): 7, (0, "x"): 10 ** 30}]:
            self.assertIs(is_parting(page, thing), True)
        for thing in [None, [], {}, {(0, "x"): 0}, {(0, "x"): 0, (1, "y"): -1},
                      {(0, "x"): 0, (1, "y"): True}, {(0, "x"): 0, (1, "x"): 0},
                      {(0, "x"): 0, (1, "y"): 0, (1, "x"): 0}, {(0, "x"): 0, (True, "y"): 0},
                      {(0, "x"): 0, (1.0, "y"): 0}, {(0, "x"): 0, "y": 0}, {(0, "x"): 0, (1, "y", 0): 0},
                      {(False, "x"): 0, (1, "y"): 0}, {(0, "x"): None, (1, "y"): 0}, {(0, 0): 0, (1, 1): 0}]:
            self.assertIs(is_parting(page, thing), False, thing)


class FewestTest(unittest.TestCase):
    def test_by_all_partings(self):
        more = 0
        for cells in some_pages(60, values=2) + some_pages(60, values=2, cells=4) + some_pages(40):
            page = Page(cells)
            good = [many_names(parting) for parting in all_partings(cells)
                    if untrue_pair(parted(page, parting)[0]) is None]
            self.assertEqual(fewest_names(page), min(good))
            parting = least_parting(page)
            self.assertEqual(list(parting), sorted(pairs_of(cells)))
            self.assertEqual(many_names(parting), min(good))
            self.assertIsNone(untrue_pair(parted(page, parting)[0]))
            names = len({name for _, name in pairs_of(cells)})
            self.assertEqual(fewest_names(page) == names, untrue_pair(page) is None)
            more += fewest_names(page) > names
            for name in {pair[1] for pair in parting}:
                numbers = [parting[pair] for pair in parting if pair[1] == name]
                first = list(dict.fromkeys(numbers))
                self.assertEqual(first, list(range(len(first))))
        self.assertGreater(more, 30)

    def test_like_parts_and_what_nobody_reads(self):
        page = Page([[("set", "x", "f", [])], [("set", "x", "g", [])], [("show", "x")],
                     [("set", "x", "h", [])], [("set", "x", "g", [])]])
        # g's cells share one name; what nobody reads, f's and h's, another one.
        self.assertEqual(fewest_names(page), 2)
        self.assertEqual(least_parting(page), {(0, "x"): 0, (1, "x"): 1, (3, "x"): 0, (4, "x"): 1})


if __name__ == "__main__":
    unittest.main()
