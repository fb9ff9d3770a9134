"""The examples of the document of sections 10 to 15, as they stand."""

import unittest

from pagestrue.againlots import enough_lots, needed_lots
from pagestrue.againrows import come_again, is_again
from pagestrue.allstands import all_stands, is_closed
from pagestrue.comings import is_ring, makes, ring_of
from pagestrue.fences import least_fences
from pagestrue.keepplans import plan_fault, plan_price
from pagestrue.liveparts import fewest_cells, live_statements
from pagestrue.nevers import is_never
from pagestrue.opencertificates import fewest_asked, is_open_certificate, open_certificate
from pagestrue.pagenumbers import lacking_numbers
from pagestrue.pages import Page
from pagestrue.passes import parts_by, pass_of, words_by
from pagestrue.rounds import comes_round
from pagestrue.savedpages import bearing, is_none_certificate, saved, sure_runs
from pagestrue.savedwords import fewest_doubts, saved_words
from pagestrue.steadiness import conflicts, is_straying
from pagestrue.steadynames import steady_names
from pagestrue.weavecounts import woven_counts
from pagestrue.weaves import strays


def step(name, does, *names):
    return ("set", name, does, list(names))


class ExampleTest(unittest.TestCase):
    def test_8_7(self):
        page = Page([[step("x", "f")], [step("y", "g", "x"), ("show", "y")],
                     [step("x", "h"), ("show", "x")], [step("x", "f")]])
        self.assertEqual(live_statements(page, [1]), [(0, 0), (1, 0), (1, 1)])
        self.assertEqual(live_statements(page, [2]), [(2, 0), (2, 1)])
        self.assertEqual(fewest_cells(page, 1), [0, 1])

    def test_10_6(self):
        page = Page([[step("x", "f")], [("copy", "y", "x")], [step("x", "g", "y")]])
        self.assertEqual(makes(page, 2), [("y", "x", True)])
        self.assertEqual(makes(page, 1), [("x", "y", False)])
        ring = [(1, "x", "y", False), (2, "y", "x", True)]
        self.assertIn(ring_of(page), [ring, ring[::-1]])
        self.assertIs(is_ring(page, ring), True)
        self.assertEqual(comes_round(page, [0], [1, 2]), ("grows", ["x"]))
        self.assertEqual(comes_round(page, [0], [2, 1]), ("grows", ["y"]))
        self.assertEqual(comes_round(page, [0, 1], [0, 2]), ("round", 1, 1))
        page = Page([[step("x", "f")], [("copy", "y", "x")], [step("x", "g")]])
        self.assertIsNone(ring_of(page))
        web, told = all_stands(page)
        self.assertEqual(web, [("made", "f", ()), ("made", "g", ())])
        self.assertEqual(told, [([], {}), ([0], {"x": 0}), ([2], {"x": 1}), ([0, 1], {"x": 0, "y": 0}),
                                ([2, 1], {"x": 1, "y": 1}), ([0, 1, 2], {"x": 1, "y": 0}),
                                ([2, 1, 0], {"x": 0, "y": 1})])
        stands = [stand for _, stand in told]
        self.assertIs(is_closed(page, web, stands), True)
        for at in range(7):
            self.assertIs(is_closed(page, web, stands[:at] + stands[at + 1:]), False)

    def test_11_7(self):
        cells = [[step("x", "f")], [step("y", "g", "x")], [step("x", "h", "x")]]
        page, without = Page(cells), Page(cells[1:])
        web = [("made", "f", ()), ("made", "h", (0,)), ("made", "g", (1,)), ("made", "g", (0,)),
               ("made", "h", (1,))]
        self.assertEqual(come_again(page, web, {}, {"x": 0, "y": 2}), ("again", [0, 2, 1, 0]))
        self.assertEqual(come_again(page, web, {}, {"x": 4, "y": 3}), ("again", [0, 1, 2, 2]))
        self.assertIs(is_again(page, web, {}, {"x": 4, "y": 3}, [0, 1, 2, 2]), True)
        self.assertEqual(come_again(without, web, {}, {"x": 0, "y": 2}), ("never", [[]]))
        views = [[("x", -1)], [("x", -1), ("y", -1)]]
        self.assertEqual(come_again(without, web, {"x": 4}, {"x": 1}), ("never", views))
        self.assertIs(is_never(without, web, {"x": 4}, {"x": 1}, views), True)
        self.assertEqual(needed_lots(page, web, {}, {"x": 0, "y": 2}), [[0], [1], [2]])
        self.assertEqual(enough_lots(page, web, {}, {"x": 0, "y": 2}), [[0, 1, 2]])

    def test_12_8(self):
        page = Page([[step("x", "f")], [step("x", "g")], [step("y", "h", "x"), ("show", "y")],
                     [step("y", "h", "y"), ("show", "x")]])
        numbers = [1, 4, 3, 5]
        self.assertEqual(lacking_numbers(page, numbers), {2: [1, 2, 3]})
        self.assertIsNone(pass_of(page, numbers, [])[1][2]["x"])
        self.assertEqual(parts_by(page, numbers, [])[1][2], [None])
        told = ("two", [0, 1, 2, 1, 3], [0, 2, 2, 1, 3])
        self.assertIs(is_open_certificate(page, numbers, [], 2, 0, told), True)
        self.assertEqual(open_certificate(page, numbers, [], 2, 0), told)
        self.assertIsNone(open_certificate(page, numbers, [], 3, 0))
        self.assertEqual(words_by(page, numbers, []), [[], [], ["open"], ["true"]])
        self.assertEqual(fewest_asked(page, numbers), [[2]])
        self.assertEqual(lacking_numbers(page, [1, 0, 2, 0]), {})
        self.assertEqual(words_by(page, [1, 0, 2, 0], []), [[], None, ["untrue"], None])

    def test_13_7(self):
        page = Page([[step("x", "f")], [step("x", "g", "x"), ("show", "x")], [("show", "x")]])
        numbers = [1, 3, 4]
        both = [[0, 1, 1, 2], [0, 2, 1, 2]]
        self.assertEqual(bearing(page, numbers, [[], [5], [5]]), both)
        self.assertEqual(saved(page, numbers, [[], [5], [5]]), ("borne", [0, 1, 1, 2]))
        self.assertEqual(sure_runs(page, numbers, [[], [5], [5]]), {})
        self.assertEqual(saved_words(page, numbers, [[], [5], [5]]), [[], ["open"], ["open"]])
        self.assertEqual(bearing(page, numbers, [[], [5], [6]]), [])
        self.assertIsNone(saved_words(page, numbers, [[], [5], [6]]))
        certificate = [([0, 1, 1, 2], ((1, 0), (2, 0))), ([0, 2, 1, 2], ((1, 0), (2, 0)))]
        self.assertIs(is_none_certificate(page, numbers, [[], [5], [6]], certificate), True)
        self.assertEqual(saved(page, numbers, [[], [5], [6]])[0], "none")
        self.assertEqual(fewest_doubts(page, numbers, [[], [5], [6]]), [(1, 0)])

    def test_14_8(self):
        page = Page([[step("x", "f"), step("y", "g", "x"), ("show", "y")], [step("x", "h"), step("y", "k", "x")]])
        hands = [[0], [1]]
        self.assertEqual(conflicts(page), [("x", (0, 0), (1, 0)), ("y", (0, 1), (1, 1))])
        self.assertEqual(strays(page, hands, [0, 1, 0]), 2)
        self.assertIs(is_straying(page, (hands, [0, 1, 0])), True)
        self.assertEqual(steady_names(page), 4)
        self.assertEqual(woven_counts(page, hands), (10, 7))
        self.assertIsNone(strays(page, hands, [0, 0, 1, 0, 1]))
        self.assertEqual(least_fences(page, hands), [[(0, 0), (0, 1), (1, 0)]])

    def test_15_7(self):
        keeping = ([("made", "f", ()), ("made", "g", (0,)), ("made", "h", (0, 1))], [5, 2, 1], [3, None, 6], [2])
        self.assertEqual(plan_price(*keeping, ["out", "out", "load"]), 6)
        self.assertEqual(plan_price(*keeping, ["load", "make", "make"]), 6)
        self.assertEqual(plan_price(*keeping, ["make", "make", "make"]), 8)
        self.assertEqual(plan_fault(*keeping, ["load", "load", "make"]), 1)


if __name__ == "__main__":
    unittest.main()
