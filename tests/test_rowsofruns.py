"""[4.3], [4.6], [4.7]: rows of runs."""

import unittest

from pagestrue.cellnames import reads_of, sets_of
from pagestrue.errors import BadRuns, BadTurn
from pagestrue.pages import Page
from pagestrue.rowsofruns import hangs_on, leavers, played, stand_behind
from pagestrue.runs import is_stand, ran
from pagestrue.webs import joined_webs
from tests.making import any_cells, maker


def a_row(seed, cells=3, longest=8):
    rng = maker(seed)
    return [rng.randrange(cells) for _ in range(rng.randint(0, longest))]


class RowTest(unittest.TestCase):
    def led(self, web, told, base):
        """What runs tell, their parts led over to the web base."""
        places = joined_webs(base, web)[1]
        return [run and ([places[part] for part in run[0]], {x: places[run[1][x]] for x in run[1]})
                for run in told]

    def test_no_runs_and_no_cells(self):
        for page in (Page([]), Page([[("show", "x")]])):
            self.assertEqual(played(page, []), ([], []))
            self.assertEqual(stand_behind(page, []), ([], {}))
            self.assertEqual(leavers(page, []), {})
        self.assertEqual(played(Page([[]]), [0, 0]), ([], [([], {}), ([], {})]))
        with self.assertRaises(BadRuns):
            played(Page([]), [0])

    def test_one_run_behind_another(self):
        for seed in range(120):
            page = Page(any_cells(seed))
            runs = a_row(seed)
            web, stand, told = [], {}, []
            for place in runs:
                run = ran(web, stand, page.cells()[place])
                if run is not None:
                    web, stand = run[:2]
                told.append(run and run[2:])
            self.assertEqual(played(page, runs), (web, told))
            self.assertEqual(stand_behind(page, runs), (web, stand))
            self.assertTrue(is_stand(web, stand))

    def test_it_holds(self):
        for seed in range(150):
            page = Page(any_cells(seed))
            runs = a_row(seed, longest=10)
            web, told = played(page, runs)
            names = set()
            for many in range(len(runs) + 1):
                its_web, its = played(page, runs[:many])
                self.assertEqual(web[:len(its_web)], its_web)
                self.assertEqual(its, told[:many])
                stand = set(stand_behind(page, runs[:many])[1])
                self.assertTrue(names <= stand)
                names = stand
            kept = [at for at, run in enumerate(told) if run is not None]
            less, others = played(page, [runs[at] for at in kept])
            self.assertEqual((less, others), (web, [told[at] for at in kept]))

    def test_hangs_on(self):
        page = Page([[("set", "x", "f", [])], [("set", "x", "g", ["x"]), ("set", "y", "g", ["x"])],
                     [("show", "y"), ("show", "z")], [("copy", "z", "x")], []])
        runs = [2, 0, 1, 3, 0, 1, 2, 4]
        self.assertEqual(hangs_on(page, runs, 6), [1, 2, 3, 4, 5, 6])
        self.assertEqual(hangs_on(page, runs, 5), [4, 5])
        self.assertEqual(hangs_on(page, runs, 3), [1, 2, 3])
        self.assertEqual(hangs_on(page, runs, 1), [1])
        self.assertEqual(hangs_on(page, runs, 7), [7])
        for place in (0, 8, -1, True, None, "1", 1.0):
            with self.assertRaises(BadTurn) as caught:
                hangs_on(page, runs, place)
            self.assertIs(caught.exception.place, place)

    def test_the_row_of_just_these_runs(self):
        for seed in range(150):
            page = Page(any_cells(seed))
            runs = a_row(seed, longest=10)
            web, told = played(page, runs)
            for place, run in enumerate(told):
                if run is not None:
                    places = hangs_on(page, runs, place)
                    its_web, its = played(page, [runs[at] for at in places])
                    self.assertEqual(self.led(its_web, its, web)[-1], run)
                    for less in range(len(places) - 1):
                        self.assertTrue(self.hangs(page, runs, places[less], places[less + 1:]))

    def hangs(self, page, runs, place, later):
        """Whether one of the later runs reads what this one left last."""
        cells = page.cells()
        for name in sets_of(cells[runs[place]]):
            for at in later:
                between = [runs[one] for one in range(place + 1, at)
                           if played(page, runs)[1][one] is not None]
                if name in reads_of(cells[runs[at]]):
                    if not any(name in sets_of(cells[one]) for one in between):
                        return True
        return False

    def test_leavers(self):
        for seed in range(120):
            page = Page(any_cells(seed))
            runs = a_row(seed, longest=10)
            told = played(page, runs)[1]
            found = leavers(page, runs)
            stand = stand_behind(page, runs)[1]
            self.assertEqual(list(found), list(stand))
            for name in stand:
                last = max(at for at, run in enumerate(told) if run and name in run[1])
                self.assertEqual(found[name], last)
                self.assertEqual(told[last][1][name], stand[name])

    def test_twice_at_once_and_exchanged(self):
        twice = exchanged = 0
        for seed in range(400):
            page = Page(any_cells(seed))
            cells = page.cells()
            runs = a_row(seed, longest=6)
            for place, cell in enumerate(cells):
                told = played(page, runs + [place, place])[1]
                if not set(reads_of(cell)) & set(sets_of(cell)) and told[-1]:
                    twice += 1
                    self.assertEqual(told[-1], told[-2])
            for at in range(len(runs) - 1):
                one, other = cells[runs[at]], cells[runs[at + 1]]
                web, told = played(page, runs)
                if told[at] and told[at + 1] and self.are_apart(one, other):
                    exchanged += 1
                    turned = runs[:at] + [runs[at + 1], runs[at]] + runs[at + 2:]
                    its_web, its = played(page, turned)
                    its = self.led(its_web, its, web)
                    its[at], its[at + 1] = its[at + 1], its[at]
                    self.assertEqual(its, told)
        self.assertGreater(min(twice, exchanged), 50)

    def are_apart(self, one, other):
        """Whether neither leaves what the other one reads from ahead, or leaves."""
        sets, its = set(sets_of(one)), set(sets_of(other))
        return not sets & (its | set(reads_of(other))) and not its & set(reads_of(one))


if __name__ == "__main__":
    unittest.main()
