"""[2.3], [2.4]: an answer at the limits within seconds, and somewhat beyond them."""

import time
import unittest

from pagestrue.alikepages import pages_part
from pagestrue.alikeparts import alike_parts, are_alike, parting_meaning
from pagestrue.casetrees import case_tree, is_case_tree
from pagestrue.cellmatters import mattering
from pagestrue.cellnames import nest_of, reads_of
from pagestrue.leastuntrue import first_untrue, left_out
from pagestrue.meanings import choice_lists, is_meaning
from pagestrue.misleading import is_misleading, on_top, untrue_at, untrue_meaning
from pagestrue.namesparted import clashes, fewest_names, least_parting, parted
from pagestrue.ownerlots import is_stop_lot, stop_lot, whole_lot
from pagestrue.pages import Page
from pagestrue.pagetexts import page_fault, page_text, read_page, whole_text
from pagestrue.rowsofruns import hangs_on, leavers, played
from pagestrue.runs import ran
from pagestrue.stops import can_stop, standing_lots, went_along
from pagestrue.tops import top, top_behind
from pagestrue.twobehind import safe_names, untrue_pair, untrue_row
from pagestrue.webparts import decided, depth_of, needs_of, thinned_web, tree_of
from pagestrue.webs import joined_webs, same_part, web_fault
from tests.making import maker, sound_cells

SECONDS = 8
NAMES = ["a", "b", "c", "d", "e", "g", "h", "k"]
TESTS = ["t", "s", "u", "v", "w", "q"]


def step(name, does, *names):
    return ("set", name, does, list(names))


def swap(test, asked, one, other, to):
    """Two ifs behind which, whatever the test says, to stands for what one stood for."""
    return [("if", test, [asked], [("copy", "p", one), ("copy", "q", other)],
             [("copy", "p", other), ("copy", "q", one)]),
            ("if", test, [asked], [("copy", to, "p")], [("copy", to, "q")])]


def deep_if(depth, statements):
    told = statements
    for at in range(depth):
        told = [("if", TESTS[at % 6], [NAMES[at % 8]], told, [("copy", "x", NAMES[at % 7])])]
    return told


def asked_web():
    """Three hundred rows, eight of them asked; what row 25 is, each third row from 28 on is, too."""
    web = [("given", 0), ("given", 1)]
    for at in range(8):
        last = len(web) - 1
        web += [("made", "f", (last,)), ("asked", "t" + str(at), (last + 1,))]
        web.append(("either", last + 2, last + 1, last))
    while len(web) < 298:
        last = len(web) - 1
        asked = 3 + 3 * (last // 3 % 8)
        web += [("either", asked, last, 0), ("either", asked, 0, last)]
        web.append(("either", asked, last + 1, last + 2))
    return web[:298] + [("made", "h", (295,)), ("made", "h", (296,))]


class LimitTest(unittest.TestCase):
    def timed(self, function, *passed):
        begun = time.monotonic()
        told = function(*passed)
        self.assertLess(time.monotonic() - begun, SECONDS, function.__name__)
        return told

    def test_cells_and_texts(self):
        cell = [step("x", "f")] + deep_if(12, [step("x", "g", "x")]) + [step(n, "f", "x") for n in NAMES]
        self.assertEqual(nest_of(cell), 12)
        self.assertEqual(self.timed(reads_of, cell), NAMES)
        self.timed(mattering, cell)
        page = Page([cell] * 12)
        text = self.timed(page_text, page)
        self.assertEqual(self.timed(read_page, text), page)
        self.assertIsNone(self.timed(page_fault, text[:10000].rpartition("cell")[0]))
        self.assertIsNotNone(self.timed(whole_text, text[:9990]))
        chain = []
        for at in range(6):
            chain += swap(TESTS[at], "n", "a", "b", "a")
        self.assertIn("n", self.timed(mattering, chain))
        self.assertEqual(self.timed(mattering, chain + [step("p", "f"), step("q", "f")]), ["a"])

    def test_webs(self):
        web = [("given", 0), ("made", "f", ())]
        for at in range(2, 1000):
            web.append(("made", "g", (at - 1, at - 2)))
        self.assertIsNone(self.timed(web_fault, web))
        self.assertEqual(self.timed(needs_of, web, 999), list(range(1000)))
        self.assertEqual(self.timed(depth_of, web, 999), 999)
        self.assertGreater(self.timed(tree_of, web, 999), 10 ** 200)
        self.assertEqual(self.timed(thinned_web, web, [999, 5])[1], [999, 5])
        self.timed(joined_webs, web[:500], [("given", 1)] + [("made", "f", ())] + web[2:500])
        self.assertIs(self.timed(same_part, web, 999, web, 999), True)
        self.timed(decided, web, {})

    def test_rows_of_runs(self):
        page = Page([[step(NAMES[at % 8], "f", NAMES[(at + 1) % 8], NAMES[(at + 3) % 8])]
                     for at in range(9)] + [[step(name, "g") for name in NAMES]])
        runs = [9] + [maker(at).randrange(9) for at in range(199)]
        web, told = self.timed(played, page, runs)
        self.assertNotIn(None, told)
        self.timed(hangs_on, page, runs, 199)
        self.timed(leavers, page, runs)
        stand = {name: len(web) - 1 for name in NAMES}
        self.timed(top_behind, web, stand, page)
        self.timed(ran, web, stand, page.cells()[9])

    def test_alike(self):
        web = asked_web()
        self.assertEqual(len(web), 300)
        self.assertEqual(len(self.timed(choice_lists, web)), 256)
        lots = self.timed(alike_parts, web)
        self.assertIn(list(range(25, 298, 3)), lots)
        for one, other in ((25, 295), (295, 25), (292, 295), (295, 295), (298, 298)):
            self.assertIs(self.timed(are_alike, web, one, other), True)
            tree = self.timed(case_tree, web, one, other)
            self.assertIs(self.timed(is_case_tree, web, one, other, tree), True)
        meaning = self.timed(parting_meaning, web, 298, 299)
        self.assertIs(self.timed(is_meaning, web, meaning), True)

    def test_alike_pages(self):
        cells = [[step("n", "n"), step("a", "f"), step("b", "g")]]
        cells += [swap(TESTS[at], "n", "a", "b", "a") + [("show", "a")] for at in range(4)]
        other = [[step("n", "n"), step("a", "f"), step("b", "g")]] + [[("show", "a")] for _ in range(4)]
        self.assertIsNone(self.timed(pages_part, Page(cells), Page(other), "shown"))
        other[-1] = [("show", "b")]
        self.assertEqual(self.timed(pages_part, Page(cells), Page(other), "shown")[:2], ("unlike", 3))

    def test_plain_pages(self):
        constants = [[step(name, "f") for name in maker(at).sample(NAMES, 4)] for at in range(10)]
        for cells in [constants, sound_cells(3, cells=10, many=8, values=8)]:
            page = Page(cells)
            self.timed(untrue_pair, page)
            self.assertEqual(self.timed(untrue_row, page) is None, untrue_pair(page) is None)
            self.timed(safe_names, page)
        self.assertEqual(self.timed(safe_names, Page(constants)), sorted(
            {one[1] for cell in constants for one in cell}))

    def heavy_page(self):
        """Six cells with ifs that never mislead, by tests of unlike things all the same."""
        cells = [[step("n", "n"), step("a", "f"), step("b", "g")]]
        for at in range(4):
            cell = []
            for more in range(3):
                cell += swap(TESTS[(at + more) % 6], "n", "a", "b", "c")
            cells.append(cell + [step("p", "f"), step("q", "f"), ("show", "c")])
        return cells + [[step("n", "m"), ("show", "b")]]

    def test_pages_with_ifs(self):
        page = Page(self.heavy_page())
        self.assertIsNone(self.timed(untrue_row, page))
        self.assertIsNone(self.timed(first_untrue, page))
        self.assertEqual(self.timed(left_out, page), [[]])
        self.assertEqual(self.timed(whole_lot, page)[0], "closed")
        self.assertIsNone(self.timed(untrue_at, page, [0, 5] + [1, 2, 3, 4, 5, 0] * 9))
        for seed in range(12):
            page = Page(sound_cells(seed, cells=6, depth=5, many=3, values=6, tests=4, calm=seed % 3 * 0.4))
            for function in (untrue_row, first_untrue, left_out, whole_lot, safe_names):
                self.timed(function, page)
            row = first_untrue(page)
            if row and sum(line[0] == "asked" for line in on_top(page, row)[0]) <= 10:
                meaning = self.timed(untrue_meaning, page, row)[3]
                self.assertIs(self.timed(is_misleading, page, (row, meaning)), True)

    def test_names(self):
        cells = sound_cells(7, cells=8, many=8, values=5)
        page = Page(cells)
        self.timed(clashes, page)
        parting = self.timed(least_parting, page)
        self.timed(fewest_names, page)
        self.assertIsNone(untrue_pair(self.timed(parted, page, parting)[0]))

    def test_stops(self):
        names = NAMES[:6]
        cells = [[step(name, "f") for name in maker(at).sample(names, 6)] for at in range(5)]
        for at, cell in enumerate(cells):
            cell[3:3] = [("show", cell[at % 3][1])]
        page = Page(cells)
        word, lot = self.timed(stop_lot, page)
        self.assertEqual(word, "closed")
        self.assertIs(self.timed(is_stop_lot, page, lot), True)
        halves = [[("copy", name, name) for name in names[at:at + 3]] for at in range(4)]
        page = Page([[step(name, "f") for name in names]] + halves)
        word, lot = self.timed(stop_lot, page)
        self.assertEqual(word, "closed")
        self.assertGreater(len(lot), 20)
        self.assertIs(self.timed(is_stop_lot, page, lot), True)
        everything = [{}]
        for name in names:
            setters = [at for at, cell in enumerate(page.cells()) if name in [one[1] for one in cell]]
            everything += [{**owners, name: at} for owners in everything for at in setters]
        self.assertGreater(len(everything), 1000)
        self.assertIs(self.timed(is_stop_lot, page, everything), True)
        self.timed(standing_lots, page)
        self.timed(can_stop, page)
        self.timed(went_along, page, [0, 1, 2, 3, 4] * 12)

    def test_top(self):
        cells = sound_cells(11, cells=10, depth=2, many=6, values=8, tests=4)
        self.timed(top, Page(cells))


if __name__ == "__main__":
    unittest.main()
