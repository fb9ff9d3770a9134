"""[9.3] to [9.6]: closed lots of owners, or rows."""

import unittest

from pagestrue.cellnames import sets_of
from pagestrue.leastuntrue import first_untrue
from pagestrue.ownerlots import is_stop_lot, is_whole_lot, stop_lot, whole_lot
from pagestrue.pages import Page
from pagestrue.twobehind import untrue_row
from tests.making import maker, sound_cells
from tests.plain import (first_row, is_row_stopped_untrue, is_row_untrue, over_worlds, plain_go,
                         plain_row, plain_run, rows_up_to)

KINDS = [(stop_lot, is_stop_lot, is_row_stopped_untrue),
         (whole_lot, is_whole_lot, lambda cells, row: is_row_untrue(cells, row, False))]


def some_pages(many, depth=1, cells=3):
    return [sound_cells(seed, depth=depth, many=3, steps=1, tests=1, cells=cells, calm=seed % 3 * 0.4)
            for seed in range(many)]


def owners_along(cells, row, may_stop):
    """The owners behind a row of runs that are all true so far."""
    values, owners = {}, {}
    for place in row:
        if may_stop:
            _, values, _, left = plain_go(cells[place], values, lambda test, terms: False)
        else:
            run = plain_run(cells[place], values, lambda test, terms: False)
            values, _, left = run or (values, [], {})
        owners.update({name: place for name in left})
    return owners


class LotTest(unittest.TestCase):
    def test_no_cells(self):
        for lot_of, is_lot, _ in KINDS:
            self.assertEqual(lot_of(Page([])), ("closed", [{}]))
            self.assertIs(is_lot(Page([]), [{}]), True)
            self.assertIs(is_lot(Page([]), []), False)
            self.assertEqual(lot_of(Page([[], []])), ("closed", [{}]))

    def test_just_one(self):
        for lot_of, is_lot, is_untrue in KINDS:
            words = {"row": 0, "closed": 0}
            for cells in some_pages(160) + some_pages(80, depth=0):
                page = Page(cells)
                word, told = lot_of(page)
                words[word] += 1
                if word == "row":
                    short = told if len(told) < 5 else None
                    self.assertEqual(short, first_row(cells, 4, is_untrue))
                else:
                    self.check_lot(page, cells, told, is_lot, lot_of is stop_lot)
                    self.assertIsNone(first_row(cells, 4, is_untrue))
            self.assertGreater(min(words.values()), 30)

    def check_lot(self, page, cells, lot, is_lot, may_stop):
        self.assertIs(is_lot(page, lot), True)
        self.assertEqual(lot, sorted(lot, key=lambda owners: list(owners.items())))
        for owners in lot:
            self.assertEqual(list(owners), sorted(owners))
        for row in [[]] + list(rows_up_to(cells, 4)):
            self.assertIn(owners_along(cells, row, may_stop), lot)
        self.assertIs(is_lot(page, tuple(lot) * 2), True)
        self.assertIs(is_lot(page, lot[::-1]), True)
        self.assertIs(is_lot(page, [dict(reversed(owners.items())) for owners in lot]), True)
        for owners in lot:
            self.assertIs(is_lot(page, [other for other in lot if other != owners]), False)
            if owners:
                name = sorted(owners)[0]
                unset = [at for at in range(len(cells)) if name not in sets_of(cells[at])]
                for worth in unset + [-1, len(cells), None, True, "0", 0.0]:
                    self.assertIs(is_lot(page, lot + [{**owners, name: worth}]), False)
        for more in (None, [], {"zz": 0}, {"Z": 0}, 0, {1: 0}):
            self.assertIs(is_lot(page, lot + [more]), False)

    def test_others_that_no_row_leads_to(self):
        # y never stands without x, and never with cell 1 for x.
        page = Page([[("set", "x", "f", []), ("set", "y", "f", [])], [("set", "x", "f", [])]])
        lot = stop_lot(page)[1]
        self.assertEqual(lot, [{}, {"x": 0, "y": 0}, {"x": 1}, {"x": 1, "y": 0}])
        for is_lot in (is_stop_lot, is_whole_lot):
            self.assertIs(is_lot(page, lot + [{"y": 0}]), True)
            self.assertIs(is_lot(page, lot + [{"x": 0}]), True)
            self.assertIs(is_lot(page, lot[:3]), False)
            self.assertIs(is_lot(page, lot[1:]), False)

    def test_what_stands_is_what_the_owners_stand_for(self):
        many = 0
        for seed, cells in enumerate(some_pages(200, depth=2)):
            rng = maker(seed)
            for may_stop, word in ((True, stop_lot(Page(cells))[0]), (False, whole_lot(Page(cells))[0])):
                row = [rng.randrange(len(cells)) for _ in range(6)]
                owners = owners_along(cells, row, may_stop)
                if word == "closed" and owners:
                    many += 1
                    self.check_owners(cells, row, owners, may_stop)
        self.assertGreater(many, 100)

    def check_owners(self, cells, row, owners, may_stop):
        def act(ask):
            lefts = [run[1] for run in plain_row(cells, range(len(cells)), {}, ask)[0]]
            values = {}
            for place in row:
                if may_stop:
                    values = plain_go(cells[place], values, ask)[1]
                else:
                    values = (plain_run(cells[place], values, ask) or [values])[0]
            self.assertEqual(values, {name: lefts[owners[name]][name] for name in owners})

        over_worlds(act)

    def test_some_lots_of_all(self):
        """Lots of all owners, held against the words of the point."""
        told = [0, 0]
        for seed, cells in enumerate(some_pages(150)):
            page = Page(cells)
            names = sorted({name for cell in cells for name in sets_of(cell)})
            everything = [{}]
            for name in names:
                setters = [at for at in range(len(cells)) if name in sets_of(cells[at])]
                everything += [{**owners, name: at} for owners in everything for at in setters]
            for lot_of, is_lot, _ in KINDS:
                is_one = is_lot(page, everything)
                told[is_one] += 1
                self.assertTrue(not is_one or lot_of(page)[0] == "closed")
                if lot_of(page)[0] == "closed":
                    less = maker(seed).sample(everything, max(1, len(everything) - 2)) + [{}]
                    inside = all(owners in less for owners in lot_of(page)[1])
                    self.assertTrue(not is_lot(page, less) or inside)
        self.assertGreater(min(told), 20)

    def test_whole_lot_is_closed_exactly_if(self):
        for cells in some_pages(150, depth=2) + some_pages(40, cells=4):
            page = Page(cells)
            word, told = whole_lot(page)
            self.assertEqual(word == "closed", untrue_row(page) is None)
            self.assertEqual(first_untrue(page), told if word == "row" else None)

    def test_holding_up_and_misleading(self):
        once = 0
        for cells in some_pages(200) + some_pages(200, depth=0):
            page = Page(cells)
            holds_up = stop_lot(page)[0] == "closed"
            if holds_up:
                self.assertIsNone(untrue_row(page))
            sets = [[one[1] for one in cell if one[0] in ("set", "copy")] for cell in cells]
            is_plain = all(one[0] != "if" for cell in cells for one in cell)
            if is_plain and all(len(set(names)) == len(names) for names in sets):
                if untrue_row(page) is None:
                    once += 1
                    self.assertTrue(holds_up)
        self.assertGreater(once, 20)


if __name__ == "__main__":
    unittest.main()
