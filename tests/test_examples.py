"""The examples of the document, as they stand."""

import unittest

from pagestrue.alikeparts import alike_parts, are_alike, parting_meaning
from pagestrue.casetrees import case_tree, is_case_tree
from pagestrue.cellmatters import mattering, matters
from pagestrue.cellnames import reads_of, sets_of
from pagestrue.leastuntrue import first_untrue, left_out
from pagestrue.meanings import choice_lists, free_meaning, is_meaning
from pagestrue.misleading import untrue_at
from pagestrue.namesparted import clashes, fewest_names, least_parting, needs_by, parted
from pagestrue.ownerlots import is_stop_lot, is_whole_lot, stop_lot, whole_lot
from pagestrue.pages import Page
from pagestrue.pagetexts import page_fault, page_text, read_page
from pagestrue.rowsofruns import hangs_on, leavers, played
from pagestrue.runs import ran
from pagestrue.stops import can_stop, standing_lots, went_along
from pagestrue.tops import needs, top
from pagestrue.twobehind import safe_names, untrue_pair, untrue_row
from pagestrue.webparts import decided, depth_of, needs_of, steps_in, tests_in, tree_of
from pagestrue.webs import put_row, same_part, web_fault


def step(name, does, *names):
    return ("set", name, does, list(names))


class ExampleTest(unittest.TestCase):
    def test_3_3(self):
        text = "cell\nset x f\nif t x\nset y g x x\nelse\ncopy y x\nend\nshow y\n"
        page = read_page(text)
        self.assertEqual(page.cells(), [[
            ("set", "x", "f", []),
            ("if", "t", ["x"], [("set", "y", "g", ["x", "x"])], [("copy", "y", "x")]),
            ("show", "y")]])
        self.assertEqual(page_text(page), text)

    def test_3_8(self):
        cell = [("set", "x", "f", ["a"]),
                ("if", "t", ["x"], [("copy", "y", "b")], [("copy", "y", "b")]),
                ("set", "x", "g", []), ("show", "y")]
        self.assertEqual(sets_of(cell), ["x", "y"])
        self.assertEqual(reads_of(cell), ["a", "b"])
        self.assertIsNone(matters(cell, "a"))
        self.assertEqual(matters(cell, "b"), ("shown", 0))
        self.assertEqual(mattering(cell), ["b"])
        self.assertEqual(page_fault("cell\nset x f"), (2, 8))
        self.assertEqual(page_fault("cell\nshw"), (2, 3))
        self.assertEqual(page_fault("cell\nif t\nset x f\nelse\nend"), (5, 1))
        self.assertEqual(page_fault("cell\nif t\nset x f\nelse\nset y"), (5, 5))

    def page_4_8(self):
        return Page([[step("x", "f")], [step("y", "g", "x"), ("show", "y")], [step("x", "h", "x")]])

    def test_4_8(self):
        page = self.page_4_8()
        web = [("made", "f", ()), ("made", "g", (0,)), ("made", "h", (0,))]
        self.assertEqual(top(page), (web, [[], [1], []], [{"x": 0}, {"y": 1}, {"x": 2}],
                                     {"x": 2, "y": 1}))
        self.assertEqual(played(page, [1, 0, 2, 1]), (
            [("made", "f", ()), ("made", "h", (0,)), ("made", "g", (1,))],
            [None, ([], {"x": 0}), ([], {"x": 1}), ([2], {"y": 2})]))
        self.assertEqual(hangs_on(page, [0, 2, 0, 1], 3), [2, 3])
        self.assertEqual(leavers(page, [0, 2, 0, 1]), {"x": 2, "y": 3})
        cells = page.cells()
        self.assertEqual(needs(Page([cells[2], cells[0], cells[1]])), ["x"])
        cell = [("if", "t", [], [step("x", "g", "x")], [("copy", "x", "x")])]
        self.assertEqual(ran([("made", "f", ())], {"x": 0}, cell), (
            [("made", "f", ()), ("asked", "t", ()), ("made", "g", (0,)), ("either", 1, 2, 0)],
            {"x": 3}, [], {"x": 3}))

    def test_5_7(self):
        web = [("made", "one", ()), ("made", "f", (0, 0)), ("made", "f", (1, 1)), ("asked", "t", (2,)),
               ("either", 3, 2, 0), ("made", "g", (4,))]
        self.assertEqual(needs_of(web, 5), [0, 1, 2, 3, 4, 5])
        self.assertEqual((steps_in(web, 5), tests_in(web, 5), depth_of(web, 5)), (4, [3], 4))
        self.assertEqual([tree_of(web, part) for part in (2, 4, 5)], [7, 15, 16])
        self.assertEqual(decided(web, {3: False}),
                         (web[:4] + [("made", "g", (0,))], [0, 1, 2, 3, 0, 4]))
        for row, why in [(("either", 3, 2, 2), "alike"), (("either", 2, 0, 1), "kind"),
                         (("made", "f", (6,)), "ahead"), (("made", "f", (0, 0)), "twice")]:
            self.assertEqual(web_fault(web + [row]), (6, why))
        self.assertEqual(put_row(web, ("given", 0)), (web + [("given", 0)], 6))
        other = [("made", "one", ()), ("made", "f", (0, 0))]
        self.assertIs(same_part(web, 2, other, 1), False)
        self.assertIs(same_part(web, 1, other, 1), True)

    def test_6_7(self):
        web = [("made", "f", ()), ("made", "g", ()), ("asked", "t", (0,)), ("either", 2, 0, 1),
               ("made", "h", (3,)), ("made", "h", (0,)), ("made", "h", (1,)), ("either", 2, 5, 6),
               ("asked", "t", (3,)), ("either", 8, 5, 7)]
        self.assertEqual(choice_lists(web), [[False, False], [False, True], [True]])
        self.assertIs(are_alike(web, 4, 7), True)
        self.assertIsNone(parting_meaning(web, 4, 7))
        self.assertIs(is_case_tree(web, 4, 7, ("asked", 2, ("like",), ("like",))), True)
        self.assertTrue(is_case_tree(web, 4, 7, case_tree(web, 4, 7)))
        self.assertIs(are_alike(web, 7, 9), False)
        self.assertIsNone(case_tree(web, 7, 9))
        meaning = [0, 1, False, 1, 2, 3, 2, 2, True, 3]
        self.assertEqual(parting_meaning(web, 7, 9), meaning)
        self.assertEqual(free_meaning(web, [False, True]), meaning)
        self.assertIs(is_meaning(web, meaning), True)
        self.assertEqual(alike_parts(web), [[0], [1], [3], [4, 7], [5], [6], [9]])

    def test_7_8(self):
        page = self.page_4_8()
        self.assertEqual(untrue_pair(page), [1])
        self.assertEqual(untrue_row(page), [1])
        self.assertEqual(first_untrue(page), [0, 2, 1])
        self.assertEqual(untrue_at(page, [0, 2, 1]), (2, ("shown", 0)))
        self.assertEqual(left_out(page), [[2]])
        self.assertEqual(safe_names(Page(page.cells()[:2])), ["x", "y"])
        inner = ("if", "t", ["m"], [step("y", "p")], [step("y", "q")])
        page = Page([[step("n", "g"), ("copy", "m", "n")], [step("n", "f"), ("copy", "m", "n")],
                     [step("m", "f")],
                     [("if", "t", ["n"], [inner], [step("y", "p")]), ("show", "y")]])
        self.assertEqual(untrue_row(page), [0, 2, 3])

    def test_8_7(self):
        page = Page([[step("x", "f")], [step("y", "g", "x"), ("show", "y")],
                     [step("x", "h"), ("show", "x")], [step("x", "f")]])
        self.assertEqual(needs_by(page), [[], ["x"], [], []])
        self.assertEqual(clashes(page), [(2, 1, "x")])
        self.assertEqual(fewest_names(page), 3)
        parting = least_parting(page)
        self.assertEqual(parting, {(0, "x"): 0, (1, "y"): 0, (2, "x"): 1, (3, "x"): 0})
        self.assertEqual(list(parting), sorted(parting))
        told, names = parted(page, parting)
        self.assertEqual(list(names), [("x", 0), ("x", 1), ("y", 0)])
        self.assertIsNone(untrue_pair(told))

    def test_9_8(self):
        page = Page([[step("c", "g")], [step("b", "f"), step("a", "h", "c"), step("a", "f")],
                     [step("b", "k", "c", "b"), step("b", "h", "a")]])
        lot = [{}, {"a": 1, "b": 1, "c": 0}, {"a": 1, "b": 2, "c": 0}, {"c": 0}]
        self.assertEqual(whole_lot(page), ("closed", lot))
        self.assertIs(is_whole_lot(page, lot), True)
        self.assertEqual(stop_lot(page), ("row", [1, 0, 2]))
        self.assertIs(is_stop_lot(page, lot), False)
        self.assertEqual([many for many, _, _ in went_along(page, [1, 0, 2])[1]], [1, 1, 1])
        self.assertEqual(standing_lots(page), [[], ["a", "b", "c"], ["b"], ["b", "c"], ["c"]])
        self.assertEqual(can_stop(page), [(1, 1), (2, 0), (2, 1)])


if __name__ == "__main__":
    unittest.main()
