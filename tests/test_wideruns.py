"""[17.1] to [17.3]: wide pages, their runs, the run from the top, untrue runs."""

import unittest

from pagestrue.errors import BadRuns, Unsound
from pagestrue.misleading import untrue_at
from pagestrue.pages import Page
from pagestrue.refusals import BadWide, BadWideCells, BadWideCell, BadWideStand
from pagestrue.runs import ran
from pagestrue.tops import top
from pagestrue.widepages import WidePage, is_wide_cell
from pagestrue.wideruns import wide_at, wide_ran, wide_top
from tests.making import Strange, a_cell, as_lists, as_tuples, maker, sound_cells, strange_things
from tests.widely import WideMaker, first_untrue, is_sound, sound_wide, wide_row, wide_run


def step(name, does, *names):
    return ("set", name, does, list(names))


def term_of(web, worth):
    """The term of a part, a function as tuples."""
    if isinstance(worth, tuple):
        return as_tuples(worth)
    row = web[worth]
    if row[0] == "made":
        return (row[1], tuple(term_of(web, need) for need in row[2]))
    return ("row", worth)


def terms_of(web, worths):
    return {name: term_of(web, worth) for name, worth in worths.items()}


TELL = ("tell", "g", ["p"], [("set", "q", "f", ["p", "a"]), ("copy", "p", "q"), ("call", "q", "h", ["p"])], "q")


class WidePageTest(unittest.TestCase):
    def test_wide_cells(self):
        for cell in ([], [TELL], [("call", "x", "g", ["a", "a"])], (("show", "x"),), [["tell", "g", (), (), "x"]],
                     [("tell", "tell", ["call"], [("copy", "call", "set")], "show"), ("set", "x", "f", [])]):
            self.assertIs(is_wide_cell(cell), True)
        for cell in ("", "tell", None, {}, [None], [()], [("tell", "g", ["p", "p"], [], "p")],
                     [("tell", "G", [], [], "p")],
                     [("tell", "g", [], [])], [("tell", "g", "p", [], "p")], [("tell", "g", [], "", "p")],
                     [("tell", "g", [], [("show", "a")], "p")], [("tell", "g", [], [("if", "t", [], [], [])], "p")],
                     [("tell", "g", [], [TELL], "p")], [("tell", "g", [], [], "")], [("tell", "g", [], [], ["p"])],
                     [("tell", "g", [1], [], "p")], [("call", "x", "g")], [("call", "x", "g", "ab")],
                     [("call", "x", 1, [])], [("call", "x", "g", [1])], [("if", "t", [], [], [])],
                     [("call", "x", "g", [], 0)],
                     [("change", "x", "f", [])], [TELL, ("set", "x", "f")],
                     [("tell", "g", [], [("set", "q", "f")], "q")]):
            self.assertIs(is_wide_cell(cell), False)
        for thing in strange_things():
            self.assertIs(type(is_wide_cell(thing)), bool)
        for seed in range(100):
            cell = a_cell(seed, depth=0)
            self.assertIs(is_wide_cell(cell), True)
            self.assertIs(is_wide_cell(cell + [WideMaker(seed).tell()]), True)

    def test_pages(self):
        cells = [[TELL, step("x", "f")], [], [("call", "x", "g", ["a"])]]
        page = WidePage(cells)
        for other in (as_lists, as_tuples):
            self.assertEqual(WidePage(other(cells)), page)
            self.assertEqual(WidePage(other(cells)).cells(), cells)
        self.assertEqual(page.cells(), cells)
        for other in (WidePage(cells[:2]), WidePage([[TELL, step("x", "h")], [], cells[2]]), cells, None, "wide"):
            self.assertTrue(page != other)
            self.assertFalse(page == other)
        self.assertFalse(WidePage([]) == Page([]))
        self.assertFalse(Page([]) == WidePage([]))
        for cells, index in ((None, 0), ("", 0), ({}, 0), ([[], None], 1), ([[("show", "x")], [], [("show", 1)]], 2),
                             ([("show", "x")], 0), ([Strange()], 0)):
            with self.assertRaises(BadWideCells) as caught:
                WidePage(cells)
            self.assertEqual(caught.exception.index, index)

    def test_a_page_is_not_changed_later(self):
        names, body, params = ["a"], [("copy", "q", "p")], ["p"]
        cells = [[step("x", "f", "a"), ("tell", "g", params, body, "q"), ("call", "x", "g", names)]]
        page = WidePage(cells)
        before = as_tuples(cells)
        names.append("b"), body.append(("copy", "q", "q")), params.append("r"), cells[0].append(5), cells.append(5)
        self.assertEqual(as_tuples(page.cells()), before)
        told = page.cells()
        told[0][1][2].append("z"), told[0][1][3].append(5), told[0][2][3].append("z"), told[0].append(5), told.append(5)
        self.assertEqual(as_tuples(page.cells()), before)


class WideRunTest(unittest.TestCase):
    web = [("made", "h", ()), ("given", 3), ("asked", "t", (0,)), ("either", 2, 0, 1)]

    def some_stand(self, seed):
        rng = maker(seed)
        stand = {}
        for name in "abc":
            if rng.random() < 0.8:
                stand[name] = rng.choice([0, 1, 3])
        for name in "fg":
            if rng.random() < 0.7:
                stand[name] = WideMaker(rng.randrange(40)).tell()[2:]
        return stand

    def test_against_plain_runs(self):
        met = {True: 0, False: 0}
        for seed in range(4000):
            stand = self.some_stand(seed)
            cell = WideMaker(seed + 9, values="abc").cell(4)
            told = wide_ran(self.web, stand, cell)
            plain = wide_run(cell, terms_of(self.web, stand))
            self.assertEqual(told is None, plain is None)
            met[told is None] += 1
            if told is not None:
                web, behind, shown, left = told
                self.assertEqual(web[:4], self.web)
                self.assertEqual(len(web), len(set(web)))
                self.assertEqual(terms_of(web, behind), plain[0])
                self.assertEqual([term_of(web, part) for part in shown], plain[1])
                self.assertEqual(terms_of(web, left), plain[2])
                self.assertEqual((list(behind), list(left)), (sorted(behind), sorted(left)))
                self.assertEqual(sorted(left), sorted({one[1] for one in cell if one[0] != "show"}))
        self.assertGreater(min(met.values()), 900)

    def test_a_call(self):
        stand = {"a": 0, "b": 1, "g": (["p", "r"], [("set", "p", "f", ["p", "a"])], "p")}
        cell = [("call", "x", "g", ["b", "a"]), step("a", "k"), ("call", "y", "g", ["x", "x"]), ("show", "y")]
        web, behind, shown, left = wide_ran(self.web, stand, cell)
        self.assertEqual(web[4:], [("made", "f", (1, 0)), ("made", "k", ()), ("made", "f", (4, 5))])
        self.assertEqual((shown, left), ([6], {"a": 5, "x": 4, "y": 6}))
        self.assertEqual(behind, {**stand, "a": 5, "x": 4, "y": 6})

    def runs_to(self, stand, *cell):
        told = wide_ran(self.web, stand, list(cell))
        return None if told is None else term_of(told[0], told[1]["x"])

    def test_names_of_functions(self):
        call = ("call", "x", "g", ["a"])
        stand = {"a": 0, "b": 1}
        h, b = ("h", ()), ("row", 1)
        for body, end, to in (
                ([], "p", h), ([], "b", b), ([], "q", None), ([], "a", h),
                ([("copy", "q", "b")], "q", b), ([("copy", "b", "p")], "b", h), ([("copy", "p", "b")], "p", b),
                ([("copy", "q", "z")], "p", None), ([step("q", "f", "q")], "p", None),
                ([step("q", "f"), step("q", "f", "q")], "q", ("f", (("f", ()),))),
                ([step("q", "f", "g")], "p", None), ([("copy", "q", "g")], "p", h),
                ([("call", "q", "g", ["p"])], "p", None), ([("call", "q", "p", [])], "p", None)):
            self.assertEqual(self.runs_to({**stand, "g": (["p"], body, end)}, call), to)
        # What the body sets is gone behind it.
        told = wide_ran(self.web, {**stand, "g": (["b"], [step("q", "f"), step("a", "f")], "q")}, [call])
        self.assertEqual(told[1]["a"], 0)
        self.assertEqual((told[1]["b"], "q" in told[1]), (1, False))

    def test_functions_are_copied_and_passed(self):
        apply = ([("p")], [("call", "q", "p", ["a"])], "q")
        twice = (["r"], [step("s", "f", "r", "r")], "s")
        stand = {"a": 0, "g": apply, "h": twice}
        self.assertEqual(self.runs_to(stand, ("call", "x", "g", ["h"])), ("f", (("h", ()), ("h", ()))))
        self.assertEqual(self.runs_to(stand, ("copy", "k", "h"), ("call", "x", "k", ["a"])),
                         ("f", (("h", ()), ("h", ()))))
        self.assertEqual(self.runs_to(stand, ("copy", "x", "h")), as_tuples(twice))
        # A function that comes to a function.
        self.assertEqual(self.runs_to({**stand, "k": ([], [], "h")}, ("call", "x", "k", []), ("call", "x", "x", ["a"])),
                         ("f", (("h", ()), ("h", ()))))
        for cell in ([("show", "h")], [step("x", "f", "h")], [("call", "x", "a", [])], [("call", "x", "h", [])],
                     [("call", "x", "h", ["a", "a"])], [("call", "x", "z", ["a"])], [("call", "x", "h", ["z"])],
                     [("call", "x", "g", ["g"])], [("call", "x", "h", ["h"])]):
            self.assertIsNone(wide_ran(self.web, stand, cell))

    def test_who_calls_itself(self):
        loop = ([], [("call", "q", "g", [])], "q")
        self.assertIsNone(self.runs_to({"g": loop}, ("call", "x", "g", [])))
        # One like it, under another name, as lists or tuples, is it again; another text is another one.
        self.assertIsNone(self.runs_to({"g": as_tuples(loop), "h": as_lists(loop)}, ("call", "x", "h", [])))
        other = ([], [("call", "r", "g", [])], "r")
        self.assertIsNone(self.runs_to({"g": loop, "h": other}, ("call", "x", "h", [])))
        once = (["p"], [("call", "q", "p", ["k"])], "q")
        same = (["p"], [], "p")
        self.assertEqual(self.runs_to({"g": once, "k": 0, "h": same}, ("call", "x", "g", ["h"])), ("h", ()))
        # Called twice, one behind another, is not called already.
        chain = (["p"], [("call", "q", "h", ["p"]), ("call", "q", "h", ["q"])], "q")
        self.assertEqual(self.runs_to({"g": chain, "k": 0, "h": same}, ("call", "x", "g", ["k"])), ("h", ()))
        back = (["p"], [("call", "q", "g", ["p"])], "q")
        self.assertIsNone(self.runs_to({"g": chain, "k": 0, "h": back}, ("call", "x", "g", ["k"])))

    def test_on_the_page_at_this_moment(self):
        """A name is looked up on the page, not with who calls."""
        inner = ([], [], "b")
        outer = (["b"], [("call", "q", "g", [])], "q")
        self.assertEqual(self.runs_to({"g": inner, "h": outer, "a": 0, "b": 1}, ("call", "x", "h", ["a"])), ("row", 1))
        self.assertEqual(self.runs_to({"g": inner, "h": outer, "a": 0, "b": 1}, ("copy", "b", "a"),
                                      ("call", "x", "h", ["b"])), ("h", ()))
        self.assertEqual(self.runs_to({"g": inner, "a": 0, "b": 1}, ("call", "b", "g", []), step("b", "f"),
                                      ("call", "x", "g", [])), ("f", ()))

    def test_nothing_comes_of_a_miss(self):
        stand = {"a": 0, "g": ([], [step("q", "new")], "z")}
        self.assertIsNone(wide_ran(self.web, stand, [step("b", "f"), ("call", "x", "g", [])]))
        self.assertEqual(stand, {"a": 0, "g": ([], [step("q", "new")], "z")})
        told = wide_ran(self.web, {"b": 1, "a": 0}, [])
        self.assertEqual((told, list(told[1])), ((self.web, {"a": 0, "b": 1}, [], {}), ["a", "b"]))

    def test_wrong_stands_and_cells(self):
        for stand in (None, [], {"a": 2}, {"a": 4}, {"a": True}, {"A": 0}, {1: 0}, {"a": None}, {"a": ()},
                      {"a": ([], [])}, {"a": (["p", "p"], [], "p")}, {"a": ([], [("show", "a")], "p")},
                      {"a": ([], [], 0)}, {"a": "abc"}, {"a": 0, "b": Strange()}, {"a": ([], [Strange()], "a")}):
            with self.assertRaises(BadWideStand) as caught:
                wide_ran(self.web, stand, None)
            self.assertIs(caught.exception.stand, stand)
        for cell in (None, "set", [None], [("if", "t", [], [], [])]):
            with self.assertRaises(BadWideCell) as caught:
                wide_ran(self.web, {}, cell)
            self.assertIs(caught.exception.cell, cell)


class WideTopTest(unittest.TestCase):
    def test_against_plain_rows(self):
        unsound = 0
        for seed in range(600):
            cells = sound_wide(seed, cells=3, many=3)
            if seed % 3 == 0:
                maker(seed).shuffle(cells)
            if not is_sound(cells):
                unsound += 1
                with self.assertRaises(Unsound) as caught:
                    wide_top(WidePage(cells))
                self.assertEqual(caught.exception.index, wide_row(cells, range(3))[0].index(None))
                continue
            web, shown, left, stand = wide_top(WidePage(cells))
            told, values = wide_row(cells, range(3))
            self.assertEqual([[term_of(web, part) for part in one] for one in shown], [run[0] for run in told])
            self.assertEqual([terms_of(web, one) for one in left], [run[1] for run in told])
            self.assertEqual(terms_of(web, stand), values)
            self.assertEqual(web, self.rows_in_order(cells))
        self.assertGreater(unsound, 20)

    def rows_in_order(self, cells):
        """The rows of the runs, cell by cell, as wide_ran tells them."""
        web, stand = [], {}
        for cell in cells:
            web, stand, _, _ = wide_ran(web, stand, cell)
        return web

    def test_untrue_runs(self):
        met = {}
        for seed in range(1500):
            cells = sound_wide(seed, cells=2 + seed % 3, many=3)
            rng = maker(seed)
            cells[-1].extend([("show", name) for name in "ab" if self.is_term_at_the_end(cells, name)])
            runs = [rng.randrange(len(cells)) for _ in range(rng.randint(0, 8))]
            told = wide_at(WidePage(cells), runs)
            self.assertEqual(told, first_untrue(cells, runs))
            met[told and told[1][0]] = met.get(told and told[1][0], 0) + 1
        self.assertGreater(min(met[word] for word in (None, "shown", "left")), 25)

    def is_term_at_the_end(self, cells, name):
        """Whether a part, no function, stands there at the end of the run from the top."""
        values = wide_row(cells, range(len(cells)))[1]
        return name in values and len(values[name]) == 2

    def test_pages_without_tells_and_calls(self):
        """A page without these is one of [7], an empty one, too."""
        for seed in range(200):
            cells = sound_cells(seed, cells=3, values=2 + seed % 2, calm=0.3)
            rng = maker(seed)
            self.assertEqual(wide_top(WidePage(cells)), top(Page(cells)))
            runs = [rng.randrange(3) for _ in range(5)]
            self.assertEqual(wide_at(WidePage(cells), runs), untrue_at(Page(cells), runs))
            cell = a_cell(seed, depth=0)
            stand = {name: 0 for name in "abc" if rng.random() < 0.8}
            self.assertEqual(wide_ran([("given", 0)], stand, cell), ran([("given", 0)], stand, cell))
        self.assertEqual(wide_top(WidePage([])), ([], [], [], {}))
        self.assertIsNone(wide_at(WidePage([[]]), [0, 0]))

    def test_wrong_things(self):
        unsound = WidePage([[], [("call", "x", "g", [])]])
        for function, more in ((wide_top, ()), (wide_at, (None,))):
            for wide in (None, [], Page([]), "wide", Strange()):
                with self.assertRaises(BadWide) as caught:
                    function(wide, *more)
                self.assertIs(caught.exception.wide, wide)
            with self.assertRaises(Unsound) as caught:
                function(unsound, *more)
            self.assertEqual(caught.exception.index, 1)
        for runs in (None, "0", [1], [True], [-1], [Strange()]):
            with self.assertRaises(BadRuns) as caught:
                wide_at(WidePage([[]]), runs)
            self.assertIs(caught.exception.runs, runs)


if __name__ == "__main__":
    unittest.main()
