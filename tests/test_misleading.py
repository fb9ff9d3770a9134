"""[7.1] to [7.3]: rows held against the top."""

import unittest

from pagestrue.alikeparts import are_alike, parting_meaning
from pagestrue.misleading import is_misleading, on_top, untrue_at, untrue_meaning
from pagestrue.pages import Page
from pagestrue.runs import ran
from pagestrue.tops import top
from tests.making import maker, sound_cells
from tests.plain import is_row_untrue, over_worlds, plain_row


def some_pages(many, **kinds):
    """Small pages with ifs and rows of runs of them."""
    for seed in range(many):
        rng = maker(seed)
        cells = sound_cells(seed, depth=1 + seed % 2, steps=1 + seed % 2, tests=1 + seed % 2, **kinds)
        yield cells, [rng.randrange(len(cells)) for _ in range(rng.randint(0, 6))]


class RowTest(unittest.TestCase):
    def test_on_top(self):
        for cells, runs in some_pages(120):
            page = Page(cells)
            web, stand, told = top(page)[0], {}, []
            for place in runs:
                run = ran(web, stand, cells[place])
                if run is not None:
                    web, stand = run[:2]
                told.append(run and run[2:])
            self.assertEqual(on_top(page, runs), (web, told))

    def test_no_runs(self):
        page = Page([[("set", "x", "f", [])]])
        self.assertEqual(on_top(page, []), ([("made", "f", ())], []))
        self.assertIsNone(untrue_at(page, []))
        self.assertIsNone(untrue_meaning(page, []))
        self.assertIs(is_misleading(page, ([], [0])), False)
        self.assertIsNone(untrue_at(Page([]), []))

    def test_misses_are_neither(self):
        page = Page([[("set", "x", "f", [])], [("show", "x")], [("set", "x", "g", [])]])
        self.assertIsNone(untrue_at(page, [1, 1, 0, 1, 2]))
        self.assertEqual(untrue_at(page, [1, 2, 1]), (2, ("shown", 0)))
        self.assertIs(is_misleading(page, ([1], [0, 1])), False)

    def test_alike_is_true(self):
        page = Page([[("set", "a", "f", []), ("set", "b", "f", [])],
                     [("if", "t", ["a"], [("copy", "x", "a")], [("copy", "x", "b")]), ("show", "x")],
                     [("set", "b", "g", [])],
                     [("if", "t", ["a"], [("copy", "b", "b")], [("copy", "b", "x")])]])
        self.assertEqual(untrue_at(page, [0, 1, 2, 1]), (3, ("shown", 0)))
        self.assertIsNone(untrue_at(page, [0, 1, 2, 3, 0, 1]))

    def plainly_untrue(self, cells, runs):
        """The first untrue run, and what of it, by all worlds."""
        for many in range(1, len(runs) + 1):
            if is_row_untrue(cells, runs[:many], False):
                break
        else:
            return None
        wrong = set()

        def act(ask):
            tops = plain_row(cells, range(len(cells)), {}, ask)[0][runs[many - 1]]
            told = plain_row(cells, runs[:many], {}, ask)[0][-1]
            wrong.update((0, at) for at, part in enumerate(told[0]) if part != tops[0][at])
            wrong.update((1, name) for name in told[1] if told[1][name] != tops[1][name])

        over_worlds(act)
        what = min(wrong)
        return many - 1, (("shown", "left")[what[0]], what[1])

    def test_by_all_worlds(self):
        kinds = {}
        for cells, runs in some_pages(500):
            page = Page(cells)
            found = self.plainly_untrue(cells, runs)
            kinds[found and found[1][0]] = kinds.get(found and found[1][0], 0) + 1
            self.assertEqual(untrue_at(page, runs), found)
            self.check_meaning(page, runs, found, untrue_meaning(page, runs))
        self.assertEqual(len(kinds), 3)
        self.assertGreater(min(kinds.values()), 5)

    def check_meaning(self, page, runs, found, told):
        if found is None:
            self.assertIsNone(told)
            return
        at, (word, key) = found
        web, one, other, meaning = told
        its_web, rows = on_top(page, runs)
        _, shown, lefts, _ = top(page)
        self.assertEqual(web, its_web)
        self.assertEqual(one, rows[at][0 if word == "shown" else 1][key])
        self.assertEqual(other, (shown if word == "shown" else lefts)[runs[at]][key])
        self.assertFalse(are_alike(web, one, other))
        self.assertEqual(meaning, parting_meaning(web, one, other))
        if at == len(runs) - 1:
            self.assertIs(is_misleading(page, (runs, meaning)), True)
            self.assertIs(is_misleading(page, [runs, tuple(meaning)]), True)


class JudgedTest(unittest.TestCase):
    PAGE = Page([[("set", "x", "f", [])], [("set", "y", "g", ["x"]), ("show", "y")],
                 [("set", "x", "h", ["x"])]])

    def test_by_numbers_alone(self):
        # Rows: 0 f(), 1 g of it, 2 h of it, 3 g of row 2.
        for thing, is_one in [
                (([0, 2, 1], [0, 1, 2, 3]), True), (([0, 2, 1], [0, 1, 2, 1]), False),
                (([0, 2, 1], [5, 1, 5, 1]), False), (([0, 2, 1], [5, 1, 5, 2]), False),
                (([0, 2, 1], [0, 1, 2]), False), (([0, 2, 1], [0, 1, 2, 3, 4]), False),
                (([0, 2, 1], [0, 1, 2, True]), False), (([0, 1], [0, 1, 2]), False),
                (([2], [0, 1, 2]), False), (([0, 2, 1, 0], [0, 1, 2, 3]), False), (([], [0, 1, 2]), False),
                (([3], [0, 1, 2]), False), (([0, 2, 1],), False), (([0, 2, 1], None), False),
                ((None, [0, 1, 2]), False), (([0, 2, 1], [0, 1, 2, 3], 0), False), ("ab", False)]:
            self.assertIs(is_misleading(self.PAGE, thing), is_one, thing)

    def test_also_what_is_left(self):
        page = Page([[("set", "x", "f", []), ("set", "a", "f", [])], [("set", "x", "g", ["x"])]])
        self.assertIs(is_misleading(page, ([0, 1, 1], [0, 1, 2])), True)
        self.assertIs(is_misleading(page, ([0, 1, 1], [0, 0, 0])), False)
        self.assertIs(is_misleading(page, ([0, 1, 1], [0, 0, 1])), False)


if __name__ == "__main__":
    unittest.main()
