"""The examples of sections 15 to 21, as they stand."""

import unittest

from pagestrue.alikeparts import parting_meaning
from pagestrue.boxlots import box_lot, box_row, is_box_lot
from pagestrue.boxpages import BoxPage, box_top
from pagestrue.casetexts import cases_text
from pagestrue.casetrees import case_tree
from pagestrue.cellorders import good_order, orders_count
from pagestrue.desks import Desk
from pagestrue.edited import anew, sure, touched
from pagestrue.freshness import marks, mending, mends, one_more, stale_at
from pagestrue.keepflows import flow_fault, flow_sum
from pagestrue.keepplans import plan_price
from pagestrue.leastkeeping import fewest_at_hand, least_keeping, shelf_worth
from pagestrue.meaningtexts import meaning_text, meaning_text_fault
from pagestrue.ordermoves import always_ahead
from pagestrue.pages import Page
from pagestrue.plans import depth_plan, is_plan
from pagestrue.rowsofruns import stand_behind
from pagestrue.runtexts import runs_text
from pagestrue.scripts import fewest_steps, needed_rows
from pagestrue.standtexts import stand_text
from pagestrue.twohands import is_lots, lots_bound, two_plan, two_rounds
from pagestrue.viewtexts import views_text
from pagestrue.webtexts import web_text, web_text_fault
from pagestrue.widelots import is_wide_lot, looked_up, sure_names, wide_lot
from pagestrue.widepages import WidePage
from pagestrue.wideruns import wide_ran, wide_top


def step(name, does, *names):
    return ("set", name, does, list(names))


def change(name, does, *names):
    return ("change", name, does, list(names))


class LastExampleTest(unittest.TestCase):
    def test_15_7(self):
        keeping = ([("made", "f", ()), ("made", "g", (0,)), ("made", "h", (0, 1))], [5, 2, 1], [3, None, 6], [2])
        self.assertEqual(plan_price(*keeping, ["out", "out", "load"]), 6)
        self.assertEqual(plan_price(*keeping, ["load", "make", "make"]), 6)
        self.assertEqual(plan_price(*keeping, ["make", "make", "make"]), 8)
        price, plan, flow = least_keeping(*keeping)
        self.assertEqual((price, plan), (6, ["out", "out", "load"]))
        self.assertIsNone(flow_fault(*keeping, flow))
        mine = [(1, [2]), (2, [2, 1]), (3, [2, 0])]
        self.assertIsNone(flow_fault(*keeping, mine))
        self.assertEqual((flow_sum(flow), flow_sum(mine)), (6, 6))
        self.assertEqual(shelf_worth(*keeping, 1), 2)
        self.assertEqual((fewest_at_hand(*keeping, 4), fewest_at_hand(*keeping, 2)), ([0], [2]))

    def test_16_8(self):
        web = [("made", "f", ()), ("made", "g", (0,)), ("made", "h", (0,)), ("made", "k", (1, 2)), ("made", "f2", ())]
        self.assertEqual((needed_rows(web, [3]), fewest_steps(web, [3])), ([0, 1, 2, 3], 4))
        self.assertEqual((depth_plan(web, [3]), two_rounds(web, [3])), ([[0], [1, 2], [3]], 3))
        self.assertIs(is_lots(web, [3], [[0], [1, 2], [3]]), True)
        self.assertEqual(lots_bound(web, [3], [[0], [1, 2], [3]]), 3)
        self.assertEqual(fewest_steps(web, [3, 4]), 5)
        self.assertIs(is_plan(web, [3, 4], 2, [[0, 4], [1, 2], [3]]), True)
        self.assertEqual(two_plan(web, [3, 4]), [[0, 4], [1, 2], [3]])
        page = Page([[step("x", "f")], [("show", "x")], [step("y", "g", "x")], [step("x", "f")]])
        orders = [good_order(page, k) for k in range(12)]
        self.assertEqual(orders_count(page), 12)
        self.assertEqual({order[0] for order in orders}, {0, 3})
        self.assertEqual(always_ahead(page), [])

    def test_17_6(self):
        cells = [[("tell", "f", [], [step("q", "h")], "q"), step("b", "s")], [("call", "b", "f", [])],
                 [("tell", "f", [], [], "b")]]
        page = WidePage(cells)
        web, _, lefts, stand = wide_top(page)
        self.assertEqual(web[stand["b"]], ("made", "h", ()))
        self.assertEqual(lefts[1], {"b": stand["b"]})
        self.assertEqual((looked_up(page, 1), sure_names(page)), (["f"], []))
        for first in range(3):
            told = wide_ran(web, stand, cells[first])
            self.assertEqual(told[3], lefts[first])
            for second in range(3):
                self.assertEqual(wide_ran(told[0], told[1], cells[second])[3], lefts[second])
        self.assertEqual(wide_lot(page), ("row", [0, 2, 1]))
        lot = [{}, {"b": 0, "f": 0}, {"b": 1, "f": 0}]
        self.assertEqual(wide_lot(WidePage(cells[:2])), ("closed", lot))
        self.assertIs(is_wide_lot(WidePage(cells[:2]), lot), True)

    def test_18_7(self):
        first = [step("x", "e")]
        cells = [first, [change("x", "f"), ("show", "x"), step("x", "e")]]
        web, shown, lefts, _ = box_top(BoxPage(cells))
        self.assertEqual((web[shown[1][0]], lefts[1]), (("made", "f", (0,)), {"x": 0}))
        self.assertIsNone(box_row(BoxPage(cells)))
        self.assertIs(is_box_lot(BoxPage(cells), [[], [(["x"], 0)]]), True)
        self.assertEqual(box_lot(BoxPage(cells)), [[], [(["x"], 0)]])
        self.assertEqual(box_row(BoxPage(cells + [[("copy", "y", "x")]])), [1])
        again = [first, [change("x", "f"), ("show", "x")]]
        self.assertEqual((box_row(BoxPage(again)), box_row(BoxPage(again + [first]))), ([1], [1, 1]))
        anew_all = [step("x", "e"), step("u", "e"), step("w", "e")]
        page = BoxPage([anew_all, [("copy", "w", "u")], [("copy", "u", "x")],
                        [change("x", "f"), ("show", "w")] + anew_all])
        self.assertEqual(box_row(page), [2, 1, 3])
        web, shown, _, _ = box_top(page)
        self.assertEqual(web[shown[3][0]], ("made", "e", ()))

    def test_19_6(self):
        cells = [[step("x", "f")], [step("y", "g", "x"), ("show", "y")], [step("x", "h", "x")]]
        page, runs = Page(cells), [0, 2, 1]
        self.assertEqual(marks(page, runs), ["fresh", "stale", "fresh"])
        self.assertEqual(stale_at(page, runs), (1, "shows", 0))
        self.assertEqual((mending(page, runs), one_more(page, runs)), ([0, 1], [0]))
        self.assertIs(mends(page, runs, [0, 1]), True)
        web, stand = stand_behind(page, runs + [0, 1])
        self.assertEqual(web[stand["x"]], ("made", "f", ()))
        other = Page([[step("x", "k")]] + cells[1:])
        self.assertEqual((touched(page, other), sure(page, other), anew(page, other)), ([0, 1, 2], [], [0, 1, 2]))
        other = Page([cells[0], [step("y", "k", "x"), ("show", "y")], cells[2]])
        self.assertEqual((touched(page, other), sure(page, other), anew(page, other)), ([1], [0, 2], [0, 1]))
        other = Page(cells[:2] + [[step("x", "k", "y")]])
        self.assertEqual(anew(page, other), [2])

    def test_20_6(self):
        desk = Desk()
        self.assertEqual(desk.put(0, [step("x", "f")]), 0)
        self.assertEqual(desk.put(1, [step("y", "g", "x"), ("show", "y")]), 1)
        desk.run(0), desk.run(1)
        self.assertEqual((desk.judged(), desk.numbers()), (["true", "true"], [1, 2]))
        desk.edit(0, [step("x", "h")])
        self.assertEqual(desk.judged(), ["gone", "untrue"])
        desk.run(0)
        self.assertEqual(desk.judged(), ["true", "untrue"])
        desk.run(1)
        self.assertEqual((desk.judged(), desk.numbers()), (["true", "true"], [3, 4]))
        self.assertEqual((desk.undo(), desk.undo()), ("run", "run"))
        self.assertEqual(desk.judged(), ["gone", "untrue"])

    def test_21_9(self):
        web = [("made", "f", ()), ("made", "g", ()), ("asked", "t", (0,)), ("either", 2, 0, 1), ("made", "h", (3,)),
               ("made", "h", (0,)), ("made", "h", (1,)), ("either", 2, 5, 6), ("asked", "t", (3,)), ("either", 8, 5, 7)]
        self.assertTrue(web_text(web).startswith("made f\nmade g\nasked t 0\neither 2 0 1\n"))
        self.assertEqual(web_text_fault("made f 0\n"), (1, 7))
        self.assertEqual(web_text_fault("made f\nmade f\n"), (2, 7))
        self.assertEqual(web_text_fault("made f\nasked t 0\nmade g 1\n"), (3, 8))
        self.assertEqual(stand_text(web, {"x": 3, "b": 0}), "b 0\nx 3\n")
        self.assertEqual(runs_text(3, [0, 2, 1, 0]), "0 2 1 0\n")
        self.assertEqual(meaning_text(web, parting_meaning(web, 7, 9)), "0 1 no 1 2 3 2 2 yes 3\n")
        self.assertEqual(meaning_text_fault(web, "0 0 no 1"), (1, 8))
        self.assertEqual(cases_text(web, 4, 7, case_tree(web, 4, 7)), "asked 2\n. like\n. like\n")
        self.assertEqual(views_text([[], [("x", -1)], [("x", 0), ("y", 2)]]), "\nx=*\nx=0 y=2\n")


if __name__ == "__main__":
    unittest.main()
