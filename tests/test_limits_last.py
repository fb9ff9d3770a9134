"""[2.3], [2.4]: an answer at the limits of sections 15 to 21 within seconds."""

import time
import unittest
from math import factorial

from pagestrue.alikeparts import parting_meaning
from pagestrue.boxlots import box_lot, box_row, is_box_lot, is_box_row, shared
from pagestrue.boxpages import BoxPage, box_run, box_top
from pagestrue.casetexts import cases_text, cases_text_fault, read_cases
from pagestrue.casetrees import case_tree
from pagestrue.cellorders import breaks_at, good_order, orders_count
from pagestrue.desks import Desk
from pagestrue.edited import anew, sure, touched
from pagestrue.freshness import marks, mending, mends, one_more, stale_at
from pagestrue.keepflows import flow_fault, flow_sum
from pagestrue.leastkeeping import fewest_at_hand, least_keeping, shelf_worth
from pagestrue.meanings import free_meaning
from pagestrue.meaningtexts import meaning_text, meaning_text_fault, read_meaning
from pagestrue.ordermoves import always_ahead, fewest_moves, move_lets, turned_order
from pagestrue.pages import Page
from pagestrue.plans import depth_plan, is_plan
from pagestrue.runtexts import read_runs, runs_text
from pagestrue.scripts import fewest_steps, is_script, least_script
from pagestrue.standtexts import read_stand, stand_text
from pagestrue.twohands import is_lots, lots_bound, lots_certificate, two_plan
from pagestrue.viewtexts import read_views, views_text
from pagestrue.webtexts import read_web, web_text, web_text_fault
from pagestrue.widelots import is_wide_lot, looked_up, sure_names, wide_lot
from pagestrue.widepages import WidePage
from pagestrue.wideruns import wide_at, wide_ran, wide_top
from tests.making import maker
from tests.test_limits import NAMES, SECONDS, TESTS, asked_web, step


class LastLimitsTest(unittest.TestCase):
    def timed(self, function, *passed):
        begun = time.perf_counter()
        told = function(*passed)
        self.assertLess(time.perf_counter() - begun, SECONDS, function.__name__)
        return told

    def made_web(self, rows, share, seed=0):
        rng = maker(seed)
        return [("made", "s" + str(at), tuple(one for one in range(at) if rng.random() < share)) for at in range(rows)]

    def test_least_keeping(self):
        for share in (0.05, 0.2, 0.6, 1):
            rng = maker(3)
            web = self.made_web(40, share)
            making = [rng.randrange(10 ** 6) for _ in web]
            loading = [rng.choice([None, rng.randrange(10 ** 6)]) for _ in web]
            for wanted in ([39], list(range(20, 40)), list(range(40))):
                price, _, flow = self.timed(least_keeping, web, making, loading, wanted)
                self.assertIsNone(self.timed(flow_fault, web, making, loading, wanted, flow))
                self.assertEqual(flow_sum(flow), price)
                self.timed(shelf_worth, web, making, loading, wanted, 17)

    def test_fewest_at_hand(self):
        for share in (0.2, 0.6, 1):
            web = self.made_web(10, share)
            making = [3 ** at % 1000 + 1 for at in range(10)]
            loading = [7 ** at % 1000 + 1 if at % 3 else None for at in range(10)]
            self.assertEqual(self.timed(fewest_at_hand, web, making, loading, list(range(10)), 0), list(range(10)))
            self.timed(fewest_at_hand, web, making, loading, [5, 7, 8, 9], 40)

    def test_scripts_and_plans(self):
        for share in (0.03, 0.1, 0.3, 1):
            web = self.made_web(40, share)
            wanted = list(range(40)) + [39, 5]
            self.assertIs(self.timed(is_script, web, wanted, self.timed(least_script, web, wanted)), True)
            self.assertEqual(self.timed(fewest_steps, web, wanted), 40)
            self.assertIs(is_plan(web, wanted, 40, self.timed(depth_plan, web, wanted)), True)
            plan = self.timed(two_plan, web, wanted)
            lots = self.timed(lots_certificate, web, wanted)
            self.assertIs(self.timed(is_lots, web, wanted, lots), True)
            self.assertEqual(self.timed(lots_bound, web, wanted, lots), len(plan))
            self.assertIs(self.timed(is_plan, web, wanted, 2, plan), True)

    def test_orders(self):
        free = Page([[step(NAMES[at % 8], "f", *[]), ("show", NAMES[at % 8])] for at in range(10)])
        self.assertEqual(self.timed(orders_count, free), factorial(10))
        self.assertEqual(self.timed(always_ahead, free), [])
        for seed in range(6):
            rng = maker(seed)
            cells = [[step(name, "f" + str(at if rng.random() < 0.5 else 0)) for name in rng.sample(NAMES, 4)]
                     for at in range(4 + seed)]
            standing = sorted({one[1] for cell in cells for one in cell})
            cells += [[("show", name) for name in standing] for _ in range(6 - seed)]
            page = Page(cells)
            many = self.timed(orders_count, page)
            order = self.timed(good_order, page, many - 1)
            self.assertIsNone(self.timed(breaks_at, page, order))
            ahead = self.timed(always_ahead, page)
            self.assertEqual(self.timed(turned_order, page, 0, 9) is None, (0, 9) in ahead)
            self.assertIn(3, self.timed(move_lets, page, 3))
            self.timed(fewest_moves, page, order)

    def chain(self, many):
        """Functions of which each one calls the next one, four times."""
        told = []
        for at in range(many - 1):
            told.append(("tell", NAMES[at], ["p", "q", "r"],
                         [("call", one, NAMES[at + 1], ["p", "q", "r"]) for one in ("s", "s", "t", "p")], "p"))
        return told + [("tell", NAMES[many - 1], ["p", "q", "r"], [step("q", "h", "p"), step("r", "h", "q", "r")] * 2,
                        "r")]

    def test_wide_pages(self):
        cells = [self.chain(4) + [step("e", "c")]]
        cells += [[step("e", "c")] + [("call", "e", NAMES[at], ["e", "e", "e"])] * 4 + [("show",
                                                                                         "e")] for at in range(2)]
        cells += [self.chain(4)[::-1] + [step("e", "c"), ("show", "e")], [step("e", "c")] + self.chain(4)]
        page = WidePage(cells)
        self.timed(wide_top, page)
        word, lot = self.timed(wide_lot, page)
        self.assertEqual(word, "closed")
        self.assertIs(self.timed(is_wide_lot, page, lot), True)
        self.assertIsNone(self.timed(wide_at, page, [0, 1, 2, 3, 4] * 8))
        self.timed(looked_up, page, 2)
        self.timed(sure_names, page)
        single = [[step(name, "f")] + [("tell", other, [], [step("q", "h")],
                                        "q") for other in NAMES[:5] if other != name]
                  for name in NAMES[:5]]
        self.assertEqual(self.timed(wide_lot, WidePage(single))[0], "closed")
        same = [[step(name, "f"), step(NAMES[at - 1], "f"), ("copy", NAMES[at - 2], name)]
                for at, name in enumerate(NAMES[:5])]
        self.assertGreater(len(self.timed(wide_lot, WidePage(same))[1]), 50)
        told = self.timed(wide_ran, [], {}, self.chain(8) + [step("x", "c")] + [("call", "x", "a", ["x"] * 3)] * 9)
        self.assertIsNotNone(told)

    def test_boxes(self):
        names = NAMES[:6]
        anew_all = [step(name, "e") for name in names]
        copies = [[("copy", names[at], names[at - 1])] for at in range(6)]
        page = BoxPage([anew_all] + copies + [anew_all + [("change", "a", "f", ["b"])] * 2 + anew_all[:1]])
        lot = self.timed(box_lot, page)
        self.assertGreater(len(lot), 50)
        self.assertIs(self.timed(is_box_lot, page, lot), True)
        self.assertIsNone(self.timed(box_row, page))
        self.assertEqual(len(self.timed(shared, page)), 15)
        self.assertEqual(self.timed(box_run, [], [], anew_all + copies[0] * 30 + [("change", "a", "f",
                                                                                   ["b"])] * 30)[2], [])
        late = BoxPage([anew_all] + copies[1:] + [[("change", "a", "f", []), ("show", "g")] + anew_all])
        row = self.timed(box_row, late)
        self.assertIs(row is None or self.timed(is_box_row, late, row), True)
        self.timed(box_top, late)
        self.assertIs(self.timed(is_box_row, page, [1, 2, 3] * 300), False)

    def asking_cells(self):
        """Six cells, with tests of what others leave."""
        cells = [[step(name, "c" + name) for name in NAMES]]
        for at in range(4):
            x, y = NAMES[at], NAMES[at + 1]
            cells.append([("if", TESTS[at], [x], [step(y, "f", x)], [step(y, "g", y)]), step("h", "f", "h", y),
                          ("show", "h")])
        return cells + [[step("k", "f", "h", "k"), ("show", "k"), ("copy", "a", "e")]]

    def test_fresh(self):
        for cells in (self.asking_cells(), [[step("a", "c")]] + [[step("a", "f" + str(at), "a")] for at in range(5)]):
            page = Page(cells)
            runs = [0] + [1 + at % 5 for at in range(6)] + [0] * 23
            self.timed(marks, page, runs)
            self.timed(stale_at, page, runs)
            row = self.timed(mending, page, runs)
            self.assertIs(self.timed(mends, page, runs, row), True)
            self.assertEqual(self.timed(one_more, page, runs)[0], row[0])
            other = Page(cells[:1] + [cells[1] + [step("a", "new")]] + cells[2:])
            self.timed(touched, page, other)
            self.timed(sure, page, other)
            self.assertLessEqual(len(self.timed(anew, page, other)), 6)
        plain = Page([[step("a", "c"), step("b", "c")]] + [[step(NAMES[at % 2], "f" + str(at), "a",
                                                                 "b")] for at in range(5)])
        self.assertEqual(len(self.timed(mending, plain, [0, 5, 4, 3, 2, 1] * 5)), 6)

    def test_desk(self):
        desk = Desk()
        cells = self.asking_cells() * 2
        for at, cell in enumerate(cells):
            self.timed(desk.put, at, cell)
        for tag in [*range(6), 3, 4, 1, 2]:
            self.timed(desk.run, tag)
            self.timed(desk.judged)
            self.timed(desk.left)
        for at in range(6):
            desk.edit(at, cells[5 - at]), desk.move(at, 11 - at), desk.undo(), desk.undo()
        self.assertEqual(self.timed(lambda: desk == desk.copy()), True)
        for _ in range(40):
            self.timed(desk.undo)
        self.assertIsNone(desk.undo())
        for _ in range(40):
            self.timed(desk.redo)
        self.assertEqual(len(desk.tags()), 12)

    def test_texts(self):
        web = [("made", "f", ()), ("asked", "t", (0,))]
        for at in range(2, 2000):
            kinds = [("made", "f", (at - 1, at - 1)), ("asked", "t", (at - 1,)), ("given", at * 1000),
                     ("either", 1, at - 1, 0)]
            web.append(kinds[at % 4])
        text = self.timed(web_text, web)
        self.assertEqual(text.count("\n"), 2000)
        self.assertEqual(self.timed(read_web, text), web)
        self.assertEqual(self.timed(web_text_fault, text + "given 0\nmade f 0\nmade f 0\n"), (2003, 9))
        parts = [at for at, row in enumerate(web) if row[0] != "asked"]
        stand = {"n" + str(at): part for at, part in enumerate(parts)}
        self.assertEqual(self.timed(read_stand, web, self.timed(stand_text, web, stand)), stand)
        runs = [at * 7919 % 2000 for at in range(2000)]
        self.assertEqual(self.timed(read_runs, 2000, self.timed(runs_text, 2000, runs)), runs)
        views = [[(name, at if at % 2 else -1) for name in NAMES] for at in range(2000)]
        self.assertEqual(self.timed(read_views, self.timed(views_text, views)), views)
        many = asked_web()
        meaning = self.timed(free_meaning, many, [True] * 8)
        line = self.timed(meaning_text, many, meaning)
        self.assertEqual(self.timed(read_meaning, many, line), meaning)
        self.assertIsNone(self.timed(meaning_text_fault, many, line))

    def test_long_cases(self):
        """A tree of two hundred and fifty-six leaves."""
        web = [("given", 0)] + [("asked", "t" + str(at), (0,)) for at in range(8)]
        one = 0
        for at in range(8):
            web += [("made", "f", (one, 0)), ("made", "g", (one, 0)), ("either", 1 + at, len(web), len(web) + 1)]
            one = len(web) - 1
        self.assertIsNotNone(self.timed(parting_meaning, web, one, 0))
        tests = [at for at, row in enumerate(web) if row[0] == "asked"]

        def tree(left):
            return ("asked", left[0], tree(left[1:]), tree(left[1:])) if left else ("like",)

        text = self.timed(cases_text, web, one, one, tree(tests))
        self.assertEqual(text.count("like"), 256)
        self.assertEqual(self.timed(read_cases, web, one, one, text), tree(tests))
        self.assertIsNone(self.timed(cases_text_fault, web, one, one, text))
        self.assertEqual(self.timed(cases_text, web, one, one, self.timed(case_tree, web, one, one)).count("like"), 256)


if __name__ == "__main__":
    unittest.main()
