"""[7.4] to [7.7]: few behind the top tell of all rows."""

import unittest
from itertools import combinations

from pagestrue.cellmatters import mattering
from pagestrue.cellnames import joined_cells, reads_of, sets_of
from pagestrue.leastuntrue import first_untrue, left_out
from pagestrue.misleading import untrue_at
from pagestrue.pages import Page, names_of, renamed
from pagestrue.rowsofruns import stand_behind
from pagestrue.tops import first_miss
from pagestrue.twobehind import safe_names, untrue_pair, untrue_row
from tests.making import maker, sound_cells
from tests.plain import first_row, is_row_untrue, is_sound, never_misleads, over_worlds, plain_row


def from_nothing(cells, row):
    return is_row_untrue(cells, row, False)


def behind_top(cells, row):
    return is_row_untrue(cells, row, True)


def plain_pages(many, **kinds):
    return [sound_cells(seed, depth=0, many=3, steps=1, calm=seed % 3 * 0.4, **kinds)
            for seed in range(many)]


def if_pages(many, **kinds):
    return [sound_cells(seed, depth=2, many=2, steps=1, tests=1, calm=seed % 3 * 0.4, **kinds)
            for seed in range(many)]


def meeting_page():
    """The page of [7.8]: two names that mislead together, none alone."""
    inner = ("if", "t", ["m"], [("set", "y", "p", [])], [("set", "y", "q", [])])
    return [[("set", "n", "g", []), ("copy", "m", "n")], [("set", "n", "f", []), ("copy", "m", "n")],
            [("set", "m", "f", [])], [("if", "t", ["n"], [inner], [("set", "y", "p", [])]), ("show", "y")]]


class PairTest(unittest.TestCase):
    def test_no_cells(self):
        self.assertIsNone(untrue_pair(Page([])))
        self.assertIsNone(untrue_row(Page([])))
        self.assertIsNone(first_untrue(Page([])))
        self.assertEqual(left_out(Page([])), [[]])
        self.assertEqual(safe_names(Page([])), [])

    def test_as_lists_compare(self):
        # The longer list is less, as it begins lower.
        page = Page([[("set", "x", "f", [])], [("set", "y", "g", ["x"])], [("set", "x", "h", [])],
                     [("set", "z", "g", ["x"])]])
        self.assertEqual(untrue_pair(page), [0, 3])
        self.assertEqual(untrue_row(page), [1])

    def least_pair(self, cells):
        rows = [[j] for j in range(len(cells))]
        rows += [[j, k] for j in range(len(cells)) for k in range(len(cells))]
        return min([row for row in rows if behind_top(cells, row)], default=None)

    def test_the_least_of_all(self):
        lengths = {}
        for cells in plain_pages(300) + plain_pages(100, cells=4):
            told = untrue_pair(Page(cells))
            self.assertEqual(told, self.least_pair(cells))
            lengths[told and len(told)] = True
        self.assertEqual(len(lengths), 3)

    def test_main_exactly_if(self):
        both = [0, 0]
        for cells in plain_pages(250, values=3):
            told = untrue_pair(Page(cells))
            self.assertEqual(told is None, never_misleads(cells, 5))
            both[told is None] += 1
            if told:
                row = list(range(len(cells))) + told
                self.assertTrue(from_nothing(cells, row))
        self.assertGreater(min(both), 30)


class RowTest(unittest.TestCase):
    def test_with_ifs_exactly_if(self):
        lengths = {}
        for cells in if_pages(200) + plain_pages(60):
            page = Page(cells)
            told = untrue_row(page)
            most = max([len(reads_of(cell)) for cell in cells] + [1]) + 1
            self.assertEqual(told, first_row(cells, most, behind_top))
            self.assertEqual(told is None, never_misleads(cells, 4))
            lengths[told and len(told)] = True
            if told:
                self.assertEqual(len(set(told[:-1])), len(told) - 1)
        self.assertEqual(len(lengths), 3)

    def test_two_are_not_enough(self):
        cells = meeting_page()
        self.assertEqual(untrue_row(Page(cells)), [0, 2, 3])
        self.assertEqual(first_row(cells, 3, behind_top), [0, 2, 3])
        self.assertEqual(first_untrue(Page(cells)), first_row(cells, 4, from_nothing))

    def test_more_than_two_are_met(self):
        """Pages as in [7.8] with the cells in any order, with other cells between."""
        threes = 0
        for seed in range(80):
            rng = maker(seed)
            first, second, third, last = meeting_page()
            third = rng.choice([third, [("set", "m", "g", [])], [("copy", "m", "n")]])
            cells = [first, second, third]
            rng.shuffle(cells)
            cells = cells[:rng.randint(2, 3)] + [last]
            if rng.random() < 0.5:
                cells.append(rng.choice([third, [("copy", "n", "m")], [("copy", "n", "n")]]))
            if is_sound(cells):
                told = untrue_row(Page(cells))
                self.assertEqual(told, first_row(cells, 3, behind_top))
                threes += told is not None and len(told) == 3
        self.assertGreater(threes, 3)


class LeastTest(unittest.TestCase):
    def test_first_untrue(self):
        for cells in if_pages(120) + plain_pages(150):
            page = Page(cells)
            told = first_untrue(page)
            short = told if told is not None and len(told) < 5 else None
            self.assertEqual(short, first_row(cells, 4, from_nothing))
            self.assertEqual(told is None, untrue_row(page) is None)
            if told is not None:
                self.assertEqual(untrue_at(page, told)[0], len(told) - 1)

    def test_left_out(self):
        lengths = {}
        for cells in if_pages(50) + plain_pages(60, cells=4):
            many = len(cells)
            lots = [list(lot) for size in range(many + 1) for lot in combinations(range(many), size)]
            fit = [lot for lot in lots if self.fits([cells[at] for at in range(many) if at not in lot])]
            least = [lot for lot in fit
                     if not any(set(other) < set(lot) for other in fit)]
            self.assertEqual(left_out(Page(cells)), sorted(least))
            lengths[len(least)] = True
        self.assertGreater(len(lengths), 2)

    def test_lots_ascend(self):
        page = Page([[("set", "x", "f", [])], [("show", "x")], [("show", "x")], [("set", "x", "g", [])]])
        self.assertEqual(left_out(page), [[1, 2], [3]])

    def fits(self, cells):
        return is_sound(cells) and first_row(cells, 3, behind_top) is None


class SafeTest(unittest.TestCase):
    def test_all_who_set_it(self):
        for cells in if_pages(80) + plain_pages(80):
            page = Page(cells)
            unsafe = set()

            def act(ask):
                tops = [run[1] for run in plain_row(cells, range(len(cells)), {}, ask)[0]]
                for left in tops:
                    for other in tops:
                        unsafe.update(x for x in left if x in other and left[x] != other[x])

            over_worlds(act)
            stand = stand_behind(page, list(range(len(cells))))[1]
            self.assertEqual(safe_names(page), [name for name in stand if name not in unsafe])

    def test_a_further_cell(self):
        both = [0, 0]
        for seed, cells in enumerate(plain_pages(400)):
            if untrue_pair(Page(cells)) is not None:
                continue
            rng = maker(seed)
            standing = sorted({name for cell in cells for name in sets_of(cell)})
            if not standing:
                continue
            more = [("set", "k", "g", [rng.choice(standing)]), ("copy", "m", rng.choice(standing)),
                    ("set", "k", "g", [rng.choice(standing)]), ("show", rng.choice(standing))]
            more = rng.sample(more, rng.randint(1, 3))
            page = Page(cells + [more])
            if first_miss(page) is None:
                is_safe = set(mattering(more)) <= set(safe_names(Page(cells)))
                self.assertEqual(untrue_pair(page) is None, is_safe)
                self.assertEqual(first_row(cells + [more], 2, behind_top) is None, is_safe)
                both[is_safe] += 1
        self.assertGreater(min(both), 5)

    def test_joined_and_renamed(self):
        many = 0
        for cells in if_pages(120) + plain_pages(120):
            page = Page(cells)
            if untrue_row(page) is None:
                many += 1
                for at in range(len(cells) - 1):
                    joined = cells[:at] + [joined_cells(cells[at], cells[at + 1])] + cells[at + 2:]
                    self.assertIsNone(untrue_row(Page(joined)))
                names = {name: "n" + name[::-1] for name in names_of(page)[0]}
                self.assertIsNone(untrue_row(renamed(page, names)))
        self.assertGreater(many, 50)


if __name__ == "__main__":
    unittest.main()
