"""[3.1], [3.2]: cells and pages."""

import unittest

from pagestrue.errors import BadCells
from pagestrue.pages import Page, is_cell, names_of, renamed
from pagestrue.rowsofruns import played, stand_behind
from pagestrue.tops import needs
from tests.making import a_cell, any_cells, maker
from tests.plain import over_worlds, plain_row, term_of


def nested(depth, sides):
    """An if of so many ifs within."""
    told = sides
    for _ in range(depth):
        told = [("if", "t", [], told, told)]
    return told


def chain(depth):
    """Ifs within the yes of one another."""
    told = []
    for _ in range(depth):
        told = [("if", "t", [], told, [])]
    return told


class CellTest(unittest.TestCase):
    def test_cells(self):
        for cell in [[], (), [("set", "x", "f", [])], [["set", "a2345678", "x", ("x", "x", "y")]],
                     [("copy", "x", "x")], [("show", "end")], [("if", "t", [], [], [])],
                     [("if", "if", ["if"], (), [])],
                     [("if", "t", [], [("copy", "x", "y"), ("set", "y", "f", [])],
                       [("set", "y", "f", []), ("copy", "x", "x"), ("set", "x", "f", ["y"])])],
                     nested(12, [("copy", "x", "y")]), nested(5, []), chain(40)]:
            self.assertIs(is_cell(cell), True, cell)

    def test_wrong_statements(self):
        for statement in [None, "set", [], (), ["set"], ("set", "x", "f"), ("set", "x", "f", "a"),
                          ("set", "x", "f", ["A"]), ("set", "x", "F", []), ("set", "", "f", []),
                          ("set", "x", "f", [1]), ("set", "x", "f", [], []), ("set", 1, "f", []),
                          ("set", "2x", "f", []), ("set", "abcdefghi", "f", []), ("set", "x y", "f", []),
                          ("set", "x", "f", {}), ("set", "x", "f", {"a": 1}), ("set", "\u00e4", "f", []),
                          ("copy", "x"), ("copy", "x", "y", "z"), ("copy", "x", ["y"]), ("show",),
                          ("show", "x", "y"), ("show", "X"), ("show", ["x"]), ("cell",), ("end",),
                          ("if", "t", [], []), ("if", "t", [], [], [], []), ("if", "T", [], [], []),
                          ("when", "t", [], [], []),
                          ("if", "t", "a", [], []), ("if", "t", [], "", []), ("if", "t", [], [], None),
                          ("if", "t", [], [("show", "x")], [("show", "x")]), ("Set", "x", "f", []),
                          ("if", "t", [], [("copy", "x", "y")], []), (["set"], "x", "f", []),
                          ("if", "t", [], [], [("copy", "x", "y")]), ("tell", "x", [], [], "x"),
                          ("if", "t", [], [("copy", "x", "y")], [("copy", "y", "x")]),
                          ("if", "t", [], nested(1, [("show", "x")]), []), ("set", "x\n", "f", []),
                          ("if", "t", [], nested(1, [("copy", "x", "y")]), [("copy", "y", "y")])]:
            self.assertIs(is_cell([statement]), False, statement)
            self.assertIs(is_cell([("copy", "x", "y"), statement]), False, statement)
            self.assertIs(is_cell(nested(2, [statement])), False, statement)

    def test_no_cells(self):
        ring = []
        ring.append(("if", "t", [], ring, ring))
        for thing in [None, "", "cell", {}, 0, set(), ring, [ring], {0: ("show", "x")}]:
            self.assertIs(is_cell(thing), False)

    def test_made_cells(self):
        for seed in range(200):
            self.assertTrue(is_cell(a_cell(seed, depth=3)))

    def test_sides_set_the_same_names(self):
        for seed in range(200):
            cell = a_cell(seed, depth=3)
            for at, statement in enumerate(cell):
                if statement[0] == "if":
                    wrong = list(statement)
                    wrong[3 + seed % 2] = list(wrong[3 + seed % 2]) + [("copy", "zz", "a")]
                    self.assertFalse(is_cell(cell[:at] + [wrong]))


class PageTest(unittest.TestCase):
    def test_cells_are_told(self):
        cells = [[], [["if", "t", ("x",), ([("copy"), "x", "y"],), [["set", "x", "f", ()]]]], []]
        told = Page(cells).cells()
        self.assertEqual(told, [[], [("if", "t", ["x"], [("copy", "x", "y")],
                                      [("set", "x", "f", [])])], []])
        self.assertIs(type(told[1][0]), tuple)
        self.assertIs(type(told[1][0][2]), list)
        self.assertIs(type(told[1][0][3]), list)
        self.assertIs(type(told[1][0][3][0]), tuple)

    def test_equal_just_if_the_cells_are(self):
        pages = [Page(any_cells(seed, cells=2, many=1, values=1, steps=1)) for seed in range(60)]
        for page in pages:
            for other in pages:
                self.assertEqual(page == other, page.cells() == other.cells())
                self.assertEqual(page != other, page.cells() != other.cells())

    def test_bad_cells(self):
        for cells, index in [(None, 0), ("ab", 0), ({}, 0), (3, 0), ([None], 0), ([[], [], 5], 2),
                             ([[], [("show",)], None], 1)]:
            with self.assertRaises(BadCells) as caught:
                Page(cells)
            self.assertEqual(caught.exception.index, index)
        self.assertEqual(Page(cells=[]).cells(), [])

    def test_names(self):
        page = Page([[("set", "x", "x", ["b", "b"]), ("copy", "c", "d"), ("show", "e")],
                     [("if", "x", ["h"], [("set", "g", "f", ["k"])], [("if", "y", [],
                       [("copy", "g", "a9")], [("set", "g", "a", [])])])]])
        self.assertEqual(names_of(page), (["a9", "b", "c", "d", "e", "g", "h", "k", "x"],
                                          ["a", "f", "x"], ["x", "y"]))
        self.assertEqual(names_of(Page([])), ([], [], []))

    def test_renamed(self):
        page = Page([[("set", "x", "x", ["y"]), ("copy", "y", "x"), ("show", "x")],
                     [("if", "x", ["x"], [("copy", "x", "y")], [("set", "x", "y", ["x"])])]])
        self.assertEqual(renamed(page, {"y": "x", "x": "y"}).cells(), [
            [("set", "y", "x", ["x"]), ("copy", "x", "y"), ("show", "y")],
            [("if", "x", ["y"], [("copy", "y", "x")], [("set", "y", "y", ["y"])])]])
        self.assertEqual(renamed(Page([]), {}), Page([]))

    def test_renamed_runs_alike(self):
        for seed in range(80):
            rng = maker(seed)
            page = Page(any_cells(seed, cells=3, many=2))
            values = names_of(page)[0]
            fresh = rng.sample(["a", "b", "c", "k", "set", "zz9"], len(values))
            names = dict(zip(values, fresh))
            other = renamed(page, names)
            self.assertEqual(names_of(other)[1:], names_of(page)[1:])
            self.assertEqual(needs(other), sorted(names[name] for name in needs(page)))
            runs = [rng.randrange(3) for _ in range(5)]
            told = played(page, runs)
            its = played(other, runs)
            stands = (stand_behind(page, runs)[1], stand_behind(other, runs)[1])

            def terms(ask):
                mine, behind = plain_row(page.cells(), runs, {}, ask)
                for run, one, two in zip(mine, told[1], its[1]):
                    self.assertEqual(run is None, one is None)
                    self.assertEqual(run is None, two is None)
                    if run is not None:
                        self.assertEqual(run[0], [term_of(told[0], part, ask) for part in one[0]])
                        self.assertEqual(run[0], [term_of(its[0], part, ask) for part in two[0]])
                        for name in run[1]:
                            self.assertEqual(run[1][name], term_of(its[0], two[1][names[name]], ask))
                for name in behind:
                    self.assertEqual(behind[name], term_of(told[0], stands[0][name], ask))
                    self.assertEqual(behind[name], term_of(its[0], stands[1][names[name]], ask))

            over_worlds(terms)


if __name__ == "__main__":
    unittest.main()
