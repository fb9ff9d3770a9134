"""[18.1] to [18.6]: pages with changes, rows that mislead, closed lots of standings."""

import unittest
from itertools import combinations, product

from pagestrue.boxlots import box_lot, box_row, is_box_lot, is_box_row, shared
from pagestrue.boxpages import BoxPage, box_run, box_top
from pagestrue.pages import Page
from pagestrue.refusals import (BadBoxCell, BadBoxCells, BadBoxPage, BadStanding, Misleads,
                                UnsoundBoxes)
from pagestrue.tops import top
from pagestrue.twobehind import untrue_pair, untrue_row
from tests.boxing import (box_along, box_step, box_tops, first_row, is_sound, misled_at, sharing_boxed, sound_boxed,
                          standing_of, true_boxed)
from tests.making import Strange, as_lists, as_tuples, maker, sound_cells, strange_things


def step(name, does, *names):
    return ("set", name, does, list(names))


def change(name, does, *names):
    return ("change", name, does, list(names))


def term_of(web, part):
    row = web[part]
    return (row[1], tuple(term_of(web, need) for need in row[2])) if row[0] == "made" else ("row", part)


def terms_in(web, standing):
    return [(names, term_of(web, part)) for names, part in standing]


def terms_of(web, left):
    return {name: term_of(web, part) for name, part in left.items()}


class BoxPageTest(unittest.TestCase):
    def test_cells(self):
        cells = [[step("x", "e"), change("x", "f", "x", "y"), ("copy", "y", "x"), ("show", "y")], []]
        page = BoxPage(cells)
        for other in (as_lists, as_tuples):
            self.assertEqual(BoxPage(other(cells)), page)
            self.assertEqual(BoxPage(other(cells)).boxcells(), cells)
        for other in (BoxPage(cells[:1]), BoxPage([]), Page([[], []]), cells, None, "boxes"):
            self.assertTrue(page != other)
            self.assertFalse(page == other)
        self.assertFalse(BoxPage([]) == Page([]))
        for wrong in (None, "set", ("set",), [("if", "t", [], [], [])], [("change", "x", "f")],
                      [("change", "X", "f", [])],
                      [("change", "x", "f", "y")], [("change", "x", 1, [])], [("tell", "g", [], [], "x")], [Strange()],
                      [("change", "x", "f", [], 0)], [("change", "x", "f", [1])], [None]):
            with self.assertRaises(BadBoxCells) as caught:
                BoxPage([[], [], wrong, wrong])
            self.assertEqual(caught.exception.index, 2)
        for wrong in (None, "", {}, 0, Strange()):
            with self.assertRaises(BadBoxCells) as caught:
                BoxPage(wrong)
            self.assertEqual(caught.exception.index, 0)
        for thing in strange_things():
            if not isinstance(thing, (list, tuple)):
                with self.assertRaises(BadBoxCells):
                    BoxPage(thing)

    def test_a_page_is_not_changed_later(self):
        names = ["y"]
        cells = [[step("x", "f", "y"), ("change", "x", "f", names)]]
        page = BoxPage(cells)
        before = as_tuples(cells)
        names.append("z"), cells[0].append(5), cells.append([])
        self.assertEqual(as_tuples(page.boxcells()), before)
        told = page.boxcells()
        told[0][1][3].append("z"), told[0].append(5), told.append(5)
        self.assertEqual(as_tuples(page.boxcells()), before)


class BoxRunTest(unittest.TestCase):
    web = [("given", 0), ("made", "f", (0,)), ("asked", "t", ()), ("either", 2, 0, 1)]

    def some_standing(self, rng):
        """A standing, and the same as boxes of terms."""
        names = rng.sample("abcd", rng.randint(0, 4))
        lots = []
        for name in names:
            if lots and rng.random() < 0.5:
                rng.choice(lots).append(name)
            else:
                lots.append([name])
        standing = sorted((sorted(lot), rng.choice([0, 1, 3])) for lot in lots)
        held = {}
        for lot, part in standing:
            box = [term_of(self.web, part)]
            held.update({name: box for name in lot})
        return standing, held

    def test_against_plain_boxes(self):
        met = {True: 0, False: 0}
        for seed in range(4000):
            rng = maker(seed)
            standing, held = self.some_standing(rng)
            cell = sound_boxed(seed, cells=1, many=6, values=4, steps="fg")[0][rng.choice([0, 0, 1, 2]):]
            cell += sound_boxed(seed + 1, cells=2, many=3, values=4, changes=0.5)[1]
            told = box_run(self.web, standing, cell)
            plain, behind = box_step(cell, held)
            met[told is None] += 1
            self.assertEqual(told is None, plain is None)
            if told is not None:
                web, after, shown, left = told
                self.assertEqual(web[:4], self.web)
                self.assertEqual(sorted(after), after)
                self.assertEqual(sorted(terms_in(web, after)), standing_of(behind))
                self.assertEqual([term_of(web, part) for part in shown], plain[0])
                self.assertEqual(terms_of(web, left), plain[1])
                self.assertEqual(list(left), sorted(left))
                self.assertTrue(all(type(pair) is tuple and type(pair[0]) is list for pair in after))
        self.assertGreater(min(met.values()), 700)

    def test_who_is_left(self):
        """All names whose box is changed, by whichever name, as it is when it is changed."""
        standing = [(["a", "b"], 0), (["c"], 1)]
        rows = self.web + [("made", "g", (0,))]
        self.assertEqual(box_run(self.web, standing, [change("b", "g")]),
                         (rows, [(["a", "b"], 4), (["c"], 1)], [], {"a": 4, "b": 4}))
        self.assertEqual(box_run(self.web, standing, [step("a", "g", "b"), change("b", "g")]),
                         (rows, [(["a"], 4), (["b"], 4), (["c"], 1)], [], {"a": 4, "b": 4}))
        self.assertEqual(box_run(self.web, standing, [("copy", "a", "c"), change("b", "g"), ("copy", "c", "b")]),
                         (rows, [(["a"], 1), (["b", "c"], 4)], [], {"a": 1, "b": 4, "c": 4}))
        # A name set anew lets go of the box; those that held it when it was changed are left.
        self.assertEqual(box_run(self.web, standing, [change("a", "g"), step("a", "f", "c")])[3], {"a": 5, "b": 4})
        self.assertEqual(box_run(self.web, standing, [("show", "a"), ("copy", "a", "a")])[2:], ([0], {"a": 0}))
        # A change reads the box that it changes, and the names in their order.
        told = box_run(self.web, standing, [change("a", "h", "c", "b", "a")])
        self.assertEqual(told[0][4], ("made", "h", (0, 1, 0, 0)))
        self.assertEqual(box_run(self.web, [], []), (self.web, [], [], {}))
        for cell in ([change("d", "f")], [change("a", "f", "d")], [("copy", "a", "d")], [("show", "d")],
                     [step("d", "f", "d")]):
            self.assertIsNone(box_run(self.web, standing, cell))

    def test_wrong_standings_and_cells(self):
        for standing in (None, {}, "", [None], [("a", 0)], [([], 0)], [(["b", "a"], 0)], [(["a", "a"], 0)],
                         [(["a"], 2)], [(["a"], 4)], [(["a"], True)], [(["a"], -1)], [(["a"], 0), (["a"], 1)],
                         [(["b"], 0), (["a"], 0)], [(["a", "c"], 0), (["b", "c"], 0)], [(["A"], 0)], [(["a"], 0, 0)],
                         [(["a"],)], [(["a", "c"], 0), (["b"], None)], [([1], 0)], [(["a"], "0")], [Strange()]):
            with self.assertRaises(BadStanding) as caught:
                box_run(self.web, standing, None)
            self.assertIs(caught.exception.standing, standing)
        for cell in (None, "set", [None], [("if", "t", [], [], [])], [("change", "x", "f")]):
            with self.assertRaises(BadBoxCell) as caught:
                box_run(self.web, [(("a", "c"), 0), (["b"], 0)], cell)
            self.assertIs(caught.exception.boxcell, cell)


class BoxTopTest(unittest.TestCase):
    def test_against_plain_boxes(self):
        unsound = 0
        for seed in range(500):
            cells = sound_boxed(seed, cells=4)
            if seed % 4 == 0:
                maker(seed).shuffle(cells)
            if not is_sound(cells):
                unsound += 1
                for function in (box_top, box_row, box_lot, shared, lambda page: is_box_row(page, None),
                                 lambda page: is_box_lot(page, None)):
                    with self.assertRaises(UnsoundBoxes) as caught:
                        function(BoxPage(cells))
                    self.assertEqual(caught.exception.index, box_tops(cells)[0].index(None))
                continue
            web, shown, left, standing = box_top(BoxPage(cells))
            tops, held = box_tops(cells)
            self.assertEqual([([term_of(web, part) for part in one], terms_of(web, its)) for one,
                              its in zip(shown, left)],
                             tops)
            self.assertEqual(sorted(terms_in(web, standing)), standing_of(held))
            rows, now = [], []
            for cell in cells:
                rows, now, _, _ = box_run(rows, now, cell)
            self.assertEqual((rows, now), (web, standing))
        self.assertGreater(unsound, 30)

    def test_edges(self):
        self.assertEqual(box_top(BoxPage([])), ([], [], [], []))
        self.assertEqual(box_top(BoxPage([[], []])), ([], [[], []], [{}, {}], []))
        for function in (box_top, box_row, box_lot, shared):
            for page in (None, [], Page([]), "boxes", Strange()):
                with self.assertRaises(BadBoxPage) as caught:
                    function(page)
                self.assertIs(caught.exception.boxpage, page)


class MisleadsTest(unittest.TestCase):
    def pages(self, many):
        for seed in range(many):
            yield sound_boxed(seed, cells=2 + seed % 2, many=1 + seed % 3, values=2 + seed % 2)
            yield true_boxed(seed, cells=3, values=3)
            yield sharing_boxed(seed, copies=2 + seed % 2, values=3 + seed % 2)

    def test_all_rows_of_runs(self):
        """The shortest row behind the top, or a closed lot; from nothing it is the same."""
        met = {}
        for cells in self.pages(160):
            page = BoxPage(cells)
            longest = {2: 5, 3: 4}.get(len(cells), 3)
            held = box_tops(cells)[1]
            row, lot = box_row(page), box_lot(page)
            plain = first_row(cells, longest, held)
            self.assertEqual((row is None), (lot is not None))
            if row is None:
                self.assertIsNone(plain)
                self.assertIsNone(first_row(cells, longest, {}))
                self.check_lot(cells, page, lot)
            else:
                self.assertEqual(plain, row if len(row) <= longest else None)
                self.assertEqual(misled_at(cells, row, held), len(row) - 1)
                self.assertIs(is_box_row(page, row), True)
                with self.assertRaises(Misleads) as caught:
                    shared(page)
                self.assertEqual(caught.exception.row, row)
            met[row and len(row)] = met.get(row and len(row), 0) + 1
        self.assertGreater(min(met[many] for many in (None, 1, 2)), 20)
        self.assertGreater(met[3], 0)

    def check_lot(self, cells, page, lot):
        web = box_top(page)[0]
        self.assertIs(is_box_lot(page, lot), True)
        mine = [sorted(terms_in(web, standing)) for standing in lot]
        came = [standing_of(box_along(cells, row)[1]) for many in range(5)
                for row in product(range(len(cells)), repeat=many)]
        self.assertTrue(all(standing in mine for standing in came))
        pairs = {pair for standing in mine for names, _ in standing for pair in combinations(names, 2)}
        if len(cells) < 3:
            self.assertTrue(all(standing in came for standing in mine))
            pairs = {pair for standing in came for names, _ in standing for pair in combinations(names, 2)}
        self.assertEqual(shared(page), sorted(pairs))

    def test_rows_of_whatever_length(self):
        met = {True: 0, False: 0}
        for seed, cells in enumerate(self.pages(120)):
            page = BoxPage(cells)
            held = box_tops(cells)[1]
            rng = maker(seed)
            for many in (0, 1, 2, 2, 3, 4, 9):
                row = [rng.randrange(len(cells)) for _ in range(many)]
                if many == 9 and box_row(page) is not None:
                    row = box_row(page)
                    many = len(row)
                right = many > 0 and misled_at(cells, row, held) == many - 1
                self.assertIs(is_box_row(page, row), right)
                met[right] += 1
        self.assertGreater(min(met.values()), 30)
        page = BoxPage([[step("x", "e")], [change("x", "f"), ("show", "x")]])
        self.assertIs(is_box_row(page, [0] * 1000 + [1, 1]), True)
        self.assertIs(is_box_row(page, (0, 1)), False)
        for thing in (None, [], "1", [2], [True], [-1], [1, 1], [1, None], 1, {1: 1}, [Strange()]):
            self.assertIs(is_box_row(page, thing), False)

    def plain_closed(self, cells, lots):
        """Whether a list of standings of terms is closed, word by word."""
        tops = box_tops(cells)[0]
        if [] not in lots:
            return False
        for standing in lots:
            held = {}
            for names, term in standing:
                box = [term]
                held.update({name: box for name in names})
            for place, cell in enumerate(cells):
                told, behind = box_step(cell, held)
                if told is not None and (told != tops[place] or standing_of(behind) not in lots):
                    return False
        return True

    def test_all_lists_of_standings(self):
        """is_box_lot by the test's own reading, of all lists of standings of two names."""
        met = {True: 0, False: 0}
        for seed in range(60):
            cells = sound_boxed(seed, cells=2, many=2, values=2, changes=0.1)
            page = BoxPage(cells)
            web = box_top(page)[0]
            if len(web) > 2:
                continue
            parts = range(len(web))
            every = [[], *([(["a"], part)] for part in parts), *([(["b"], part)] for part in parts),
                     *([(["a", "b"], part)] for part in parts),
                     *([(["a"], one), (["b"], other)] for one in parts for other in parts)]
            for many in range(5):
                for lot in combinations(every, many):
                    right = self.plain_closed(cells, [sorted(terms_in(web, standing)) for standing in lot])
                    self.assertIs(is_box_lot(page, list(lot)), right)
                    met[right] += 1
        self.assertGreater(min(met.values()), 100)

    def test_lots_that_are_none(self):
        page = BoxPage([[step("x", "e")], [("copy", "y", "x")]])
        lot = box_lot(page)
        self.assertEqual(lot, [[], [(["x"], 0)], [(["x"], 0), (["y"], 0)], [(["x", "y"], 0)]])
        self.assertEqual(shared(page), [("x", "y")])
        self.assertIs(is_box_lot(page, lot + lot), True)
        self.assertIs(is_box_lot(page, lot + [[(["y"], 0)], [(["x", "zz"], 0)], [(["x"], 0), (["zz"], 0)],
                                              [(["x", "y"], 0), (["zz"], 0)], [(["x"], 0), (["y", "zz"], 0)],
                                              [(["x"], 0), (["y"], 0), (["zz"], 0)], [(["x", "y", "zz"], 0)]]), True)
        for thing in (lot[1:], lot[:3], lot + [[(["zz"], 0)]], lot + [None], lot + [[(["x"], 1)]],
                      lot + [[(["x"], True)]],
                      lot + [[("x", 0)]], None, "", {}, lot + [Strange()], lot + [[(["y"], 0), (["x"], 0)]]):
            self.assertIs(is_box_lot(page, thing), False)
        for thing in strange_things():
            self.assertIs(type(is_box_lot(page, thing)), bool)
            self.assertIs(type(is_box_row(page, thing)), bool)

    def test_no_cells(self):
        page = BoxPage([])
        self.assertEqual((box_row(page), box_lot(page), shared(page)), (None, [[]], []))
        self.assertIs(is_box_lot(page, [[]]), True)
        self.assertIs(is_box_lot(page, []), False)

    def test_without_changes(self):
        """Boxes are values then: two places suffice, and it is the page of [7]."""
        met = {True: 0, False: 0}
        for seed in range(400):
            cells = sound_cells(seed, cells=3, values=3, calm=(0.2, 0.6, 0.8)[seed % 3], steps=1 + seed % 2)
            boxes, page = BoxPage(cells), Page(cells)
            self.assertEqual(box_top(boxes)[:3], top(page)[:3])
            self.assertEqual(box_row(boxes), untrue_row(page))
            self.assertEqual(box_row(boxes) is None, untrue_pair(page) is None)
            met[box_row(boxes) is None] += 1
        self.assertGreater(min(met.values()), 20)


if __name__ == "__main__":
    unittest.main()
