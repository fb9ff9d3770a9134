"""[11.1] to [11.6]: what can come again from what stands."""

import unittest
from itertools import combinations

from pagestrue.againlots import enough_lots, needed_lots
from pagestrue.againrows import come_again, fewest_runs, first_loss, is_again
from pagestrue.againviews import views_along
from pagestrue.errors import BadViews
from pagestrue.nevers import is_never, lacking
from pagestrue.pages import Page, names_of
from pagestrue.rowsofruns import stand_behind
from tests.making import maker, reading_cells
from tests.plain import plain_row, rows_up_to, term_of


def never(test, terms):
    raise AssertionError("no tests here")


def step(name, does, *names):
    return ("set", name, does, list(names))


class Question:
    """A small page, a web, what stands and what is wished for."""

    def __init__(self, seed, cells=3, most_wished=2):
        rng = maker(seed)
        elder = reading_cells(seed, cells + 1, 2)
        runs = [*range(len(elder)), *[rng.randrange(len(elder)) for _ in range(rng.randint(2, 6))]]
        self.web = stand_behind(Page(elder), runs)[0]
        stood = [stand_behind(Page(elder), runs[:many])[1] for many in range(len(runs) + 1)]
        self.stand = dict(rng.choice([stood[-1], {}, stood[len(elder)]]))
        # Beside one cell that is gone the page is what it was when this was run.
        gone = rng.choice([0, rng.randrange(len(elder))])
        self.cells = [cell for at, cell in enumerate(elder) if at != gone]
        if seed % 6 == 0:
            self.web = self.web + [("given", 0)]
            self.stand["k"] = len(self.web) - 1
        self.page = Page(self.cells)
        self.wished = {}
        for name in rng.sample(sorted(stood[-1]), rng.randint(0, min(most_wished, len(stood[-1])))):
            self.wished[name] = rng.choice([one[name] for one in stood if name in one])
        self.passed = (self.page, self.web, self.stand, self.wished)

    def term(self, part):
        return term_of(self.web, part, never)

    def values(self, runs):
        """What stands behind the runs, as terms."""
        start = {name: self.term(part) for name, part in self.stand.items()}
        return plain_row(self.cells, runs, start, never)[1]

    def is_brought(self, runs, wished=None):
        wished = self.wished if wished is None else wished
        values = self.values(runs)
        return all(values.get(name) == self.term(part) for name, part in wished.items())

    def first_row(self, longest, wished=None, places=None):
        """The first row up to this length that brings it, the shorter ones ahead."""
        if self.is_brought([], wished):
            return []
        for row in rows_up_to(self.cells, longest):
            if (places is None or set(row) <= set(places)) and self.is_brought(row, wished):
                return row
        return None

    def wanted(self):
        """The indexes of the rows on which what is wished for hangs."""
        found = set(self.wished.values())
        while True:
            more = found | {need for at in found if self.web[at][0] == "made" for need in self.web[at][2]}
            if more == found:
                return found
            found = more

    def view(self, values):
        """The view of what stands, of terms."""
        terms = {self.term(at): at for at in self.wanted()}
        return [(name, terms.get(values[name], -1)) for name in sorted(values)]


def questions(many, **kinds):
    return [Question(seed, **kinds) for seed in range(many)]


class ViewsTest(unittest.TestCase):
    def test_views_of_real_runs(self):
        for seed, asked in enumerate(questions(300)):
            rng = maker(seed)
            runs = [rng.randrange(len(asked.cells)) for _ in range(5)]
            told = views_along(*asked.passed, runs)
            self.assertEqual(told, [asked.view(asked.values(runs[:many])) for many in range(6)])

    def test_edges(self):
        web = [("made", "f", ()), ("given", 0)]
        self.assertEqual(views_along(Page([]), web, {"x": 1, "b": 0}, {"x": 0}, []), [[("b", 0), ("x", -1)]])
        self.assertEqual(views_along(Page([]), web, {"x": 1}, {}, []), [[("x", -1)]])
        self.assertEqual(views_along(Page([[step("x", "f")]]), web, {}, {"x": 0}, [0, 0]),
                         [[], [("x", 0)], [("x", 0)]])
        self.assertEqual(views_along(Page([[step("x", "g", "x")]]), web, {}, {"x": 0}, [0]), [[], []])


class RowsTest(unittest.TestCase):
    def test_just_one(self):
        found, lost = 0, 0
        for asked in questions(400) + questions(60, cells=2, most_wished=3):
            row = asked.first_row(5)
            word, told = come_again(*asked.passed)
            if word == "again":
                self.assertTrue(asked.is_brought(told))
                if row is None:
                    self.assertGreater(len(told), 5)
                else:
                    self.assertEqual(told, row)
                found += len(told) > 1
                self.assertIs(is_again(*asked.passed, told), True)
                continue
            lost += 1
            self.assertEqual(word, "never")
            self.assertIsNone(row)
            self.check_never(asked, told)
        self.assertGreater(found, 20)
        self.assertGreater(lost, 50)

    def check_never(self, asked, told):
        """Just the views that come by real runs; without any of them some run lacks."""
        self.assertEqual(told, sorted(told))
        real = {str(asked.view(asked.values(row))) for row in [[], *rows_up_to(asked.cells, 3)]}
        self.assertLessEqual(real, {str(view) for view in told})
        if len(told) <= 4:
            self.assertEqual(real, {str(view) for view in told})
        self.assertIsNone(lacking(*asked.passed, told))
        self.assertIs(is_never(*asked.passed, told), True)
        self.assertIs(is_never(*asked.passed, told[::-1]), len(told) < 2)
        for at in range(len(told)):
            self.assertIs(is_never(*asked.passed, told[:at] + told[at + 1:]), False)

    def test_is_again(self):
        for seed, asked in enumerate(questions(200)):
            for row in [[], *rows_up_to(asked.cells, 3)]:
                self.assertIs(is_again(*asked.passed, row), asked.is_brought(row))
        for thing in (None, "0", [3], [True], [0, -1], {0: 0}, [[0]]):
            self.assertIs(is_again(*asked.passed, thing), False)

    def test_what_stands_already(self):
        web = [("given", 0), ("made", "f", (0,))]
        page = Page([[step("x", "f", "x")]])
        self.assertEqual(come_again(page, web, {"x": 1}, {"x": 1}), ("again", []))
        self.assertEqual(come_again(page, web, {"x": 0}, {"x": 1}), ("again", [0]))
        self.assertEqual(come_again(page, web, {"x": 1}, {}), ("again", []))
        self.assertEqual(come_again(page, web, {"x": 1}, {"x": 0})[0], "never")
        self.assertEqual(come_again(Page([]), web, {}, {"x": 0}), ("never", [[]]))

    def test_fewest_runs(self):
        never_alone, never_together = 0, 0
        for asked in questions(250, most_wished=3):
            told = fewest_runs(*asked.passed)
            self.assertEqual(list(told), sorted(asked.wished))
            for name, part in asked.wished.items():
                row = asked.first_row(4, {name: part})
                if row is None:
                    self.assertTrue(told[name] is None or told[name] > 4)
                else:
                    self.assertEqual(told[name], len(row))
            word, found = come_again(*asked.passed)
            if word == "again":
                self.assertGreaterEqual(len(found), max(told.values(), default=0))
            elif None in told.values():
                never_alone += 1
            else:
                never_together += 1
        self.assertGreater(never_alone, 20)
        self.assertGreater(never_together, 2)
        self.assertEqual(fewest_runs(Page([]), [], {}, {}), {})

    def test_first_loss(self):
        lost = 0
        for seed, asked in enumerate(questions(300)):
            rng = maker(seed)
            runs = [rng.randrange(len(asked.cells)) for _ in range(6)]
            told = first_loss(*asked.passed, runs)
            for many in range(7):
                self.assertEqual(self.can_still(asked, runs[:many]), told is None or many < told, seed)
            lost += told is not None and told > 0
            if not asked.stand:
                self.assertIn(told, (0, None))
        self.assertGreater(lost, 8)

    def can_still(self, asked, ahead):
        """Whether some views that come of what stands behind the row have all that is wished for."""
        known = [asked.values(ahead)]
        views = [asked.view(known[0])]
        at = 0
        while at < len(known):
            if all((name, part) in views[at] for name, part in asked.wished.items()):
                return True
            for cell in asked.cells:
                values = plain_row([cell], [0], known[at], never)[1]
                if asked.view(values) not in views:
                    views.append(asked.view(values))
                    known.append(values)
            at += 1
        return False


class LackingTest(unittest.TestCase):
    PAGE = Page([[step("y", "g", "x")], [step("x", "h", "x")]])
    WEB = [("made", "f", ()), ("made", "h", (0,)), ("made", "g", (1,)), ("made", "g", (0,)), ("made", "h", (1,))]

    def test_first_of(self):
        stand, wished = {"x": 4}, {"x": 1}
        one, two = [("x", -1)], [("x", -1), ("y", -1)]
        passed = (self.PAGE, self.WEB, stand, wished)
        self.assertIsNone(lacking(*passed, [one, two]))
        self.assertEqual(lacking(*passed, []), ("stand",))
        self.assertEqual(lacking(*passed, [two]), ("stand",))
        self.assertEqual(lacking(*passed, [one]), ("run", one, 0))
        self.assertEqual(lacking(*passed, [one, two, [("x", 0)]]), ("run", [("x", 0)], 0))
        self.assertEqual(lacking(*passed, [one, two, [("x", 0), ("y", -1)]]), ("run", [("x", 0), ("y", -1)], 1))
        self.assertEqual(lacking(*passed, [one, two, [("x", 1), ("y", -1)]]), ("wished", [("x", 1), ("y", -1)]))
        self.assertEqual(lacking(*passed, [[], one, two]), None)
        self.assertEqual(lacking(*passed, [two, [("x", -1), ("y", 0)]]), ("stand",))
        self.assertEqual(lacking(self.PAGE, self.WEB, stand, {}, [[("x", -1)], [("x", -1), ("y", -1)]]),
                         ("wished", [("x", -1)]))

    def test_what_stands_is_wished(self):
        passed = (Page([]), self.WEB, {"x": 1}, {"x": 1})
        self.assertEqual(lacking(*passed, [[("x", 1)]]), ("wished", [("x", 1)]))
        self.assertIs(is_never(*passed, [[("x", 1)]]), False)

    def test_names_of_views(self):
        """Names of page, stand or wished may stand in a view, no other ones."""
        passed = (Page([[("show", "p")]]), self.WEB, {"s": 0}, {"w": 1})
        for name in "psw":
            self.assertEqual(lacking(*passed, [[(name, 0)]]), ("stand",) if name != "s" else None)
        for view in ([("q", 0)], [("s", 2)], [("s", 0), ("p", 0)], [("s", 0), ("s", 0)]):
            with self.assertRaises(BadViews) as caught:
                lacking(*passed, [[], view])
            self.assertEqual(caught.exception.index, 1)
            self.assertIs(is_never(*passed, [[], view]), False)

    def test_by_all_lists_of_few_views(self):
        """None just if the list is closed, has the stand's view, and none has what is wished for."""
        page = Page([[step("x", "f")], [("copy", "y", "x")]])
        web = [("made", "f", ()), ("made", "g", (0,))]
        views = sorted([[], [("x", 0)], [("x", 0), ("y", 0)], [("x", -1)], [("x", 1)], [("x", -1), ("y", -1)],
                        [("x", 0), ("y", -1)], [("y", -1)]])
        passed = (page, web, {}, {"y": 1})
        moves = {}
        for view in views:
            terms = {0: ("f", ()), 1: ("g", (("f", ()),)), -1: ("other", ())}
            values = {name: terms[part] for name, part in view}
            moves[str(view)] = []
            for at in range(2):
                behind = plain_row(page.cells(), [at], values, never)[1]
                seen = {terms[part]: part for part in terms}
                moves[str(view)].append([(name, seen[behind[name]]) for name in sorted(behind)])
        closed = 0
        for many in range(len(views) + 1):
            for lot in combinations(views, many):
                lot = [view for view in lot if view != [("x", 1)]]
                is_right = [] in lot and all(one in lot for view in lot for one in moves[str(view)])
                self.assertEqual(lacking(*passed, lot) is None, is_right)
                self.assertIs(is_never(*passed, lot), is_right)
                closed += is_right
        self.assertGreater(closed, 3)


class LotsTest(unittest.TestCase):
    def test_all_lots(self):
        several = 0
        for asked in questions(150) + questions(60, cells=4, most_wished=2):
            many = len(asked.cells)
            lots = [list(lot) for size in range(many + 1) for lot in combinations(range(many), size)]
            suffices = {}
            for lot in lots:
                page = Page([cell if at in lot else [("show", "zz")] for at, cell in enumerate(asked.cells)])
                suffices[tuple(lot)] = come_again(page, *asked.passed[1:])[0] == "again"
                row = asked.first_row(3, places=lot)
                if row is not None:
                    self.assertTrue(suffices[tuple(lot)])
            enough = [lot for lot in lots if suffices[tuple(lot)]
                      and not any(suffices[tuple(x for x in lot if x != out)] for out in lot)]
            self.assertEqual(enough_lots(*asked.passed), sorted(enough))
            lost = [lot for lot in lots if not suffices[tuple(x for x in range(many) if x not in lot)]]
            least = [lot for lot in lost if not any(set(other) < set(lot) for other in lost)]
            self.assertEqual(needed_lots(*asked.passed), sorted(least))
            several += len(enough) > 1 or len(least) > 1
            for lot in lots:
                has_within = any(set(one) <= set(lot) for one in enough)
                self.assertNotEqual(has_within, any(not set(one) & set(lot) for one in least))
        self.assertGreater(several, 8)

    def test_edges(self):
        web = [("made", "f", ())]
        page = Page([[step("x", "f")], [step("x", "f")], [step("y", "f")], [("copy", "x", "y")]])
        self.assertEqual(enough_lots(page, web, {}, {"x": 0}), [[0], [1], [2, 3]])
        self.assertEqual(needed_lots(page, web, {}, {"x": 0}), [[0, 1, 2], [0, 1, 3]])
        page = Page([[step("y", "f")], [("copy", "x", "y")], [step("x", "f")]])
        self.assertEqual(enough_lots(page, web, {}, {"x": 0}), [[0, 1], [2]])
        self.assertEqual(needed_lots(page, web, {}, {"x": 0}), [[0, 2], [1, 2]])
        page = Page([[step("x", "f")], [("copy", "x", "y")], [step("y", "f")]])
        self.assertEqual(needed_lots(page, web, {}, {"x": 0, "y": 0}), [[0, 1], [2]])
        self.assertEqual((enough_lots(page, web, {"x": 0}, {"x": 0}), needed_lots(page, web, {"x": 0}, {"x": 0})),
                         ([[]], []))
        self.assertEqual((enough_lots(page, web, {}, {"z": 0}), needed_lots(page, web, {}, {"z": 0})), ([], [[]]))
        self.assertEqual((enough_lots(Page([]), web, {}, {}), needed_lots(Page([]), web, {}, {})), ([[]], []))
        self.assertEqual(names_of(page)[0], ["x", "y"])


if __name__ == "__main__":
    unittest.main()
