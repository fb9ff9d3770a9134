"""[2.3], [2.4]: an answer at the limits of sections 8 to 15 within seconds."""

import time
import unittest
from math import comb, factorial

from pagestrue.againlots import enough_lots, needed_lots
from pagestrue.againrows import come_again, fewest_runs, first_loss, is_again
from pagestrue.againviews import views_along
from pagestrue.allstands import all_stands, is_closed
from pagestrue.comings import is_ring, ring_of
from pagestrue.fences import fenced_counts, keeps_fences, least_fences
from pagestrue.keepplans import plan_fault, plan_price
from pagestrue.liveparts import fewest_cells, live_page, live_statements
from pagestrue.nevers import is_never, lacking
from pagestrue.opencertificates import fewest_asked, is_enough, is_open_certificate, open_certificate
from pagestrue.pagenumbers import histories, history_shown, is_numbers, lacking_numbers
from pagestrue.pages import Page
from pagestrue.passes import is_pass, pass_of, words_by
from pagestrue.rounds import comes_round
from pagestrue.savedpages import bearing, is_none_certificate, saved
from pagestrue.savedwords import fewest_doubts, saved_words
from pagestrue.steadiness import conflicts, is_straying, straying
from pagestrue.steadynames import steady_names, steady_naming
from pagestrue.weavecounts import kth_order, woven_counts
from pagestrue.weaves import stands_behind, strays, woven
from tests.making import maker
from tests.test_limits import NAMES, SECONDS, step

CONSTANTS = [step(name, "c" + name) for name in NAMES]


class MoreLimitsTest(unittest.TestCase):
    def timed(self, function, *passed):
        begun = time.perf_counter()
        told = function(*passed)
        self.assertLess(time.perf_counter() - begun, SECONDS, function.__name__)
        return told

    def full_cells(self, cells, names, statements=7):
        """A cell that sets all names, then cells of many statements each, with a show."""
        rng = maker(len(names))
        told = [[step(name, "c") for name in names]]
        for at in range(cells - 1):
            told.append([step(rng.choice(names), "f" + str(at), rng.choice(names), rng.choice(names))
                         for _ in range(statements)] + [("show", rng.choice(names))])
        return told

    def test_live_parts(self):
        cells = self.full_cells(9, NAMES) + [[("show", name) for name in NAMES]]
        page = Page(cells)
        self.timed(live_statements, page, [9])
        self.timed(live_page, page, list(range(10)))
        self.assertEqual(self.timed(fewest_cells, page, 9)[-1], 9)
        # Each cell but the last one hands on what it reads: no one of them may lack.
        chain = [[step("a", "c")]] + [[step("a", "f" + str(at), "a")] * 8 for at in range(8)] + [[("show", "a")]]
        self.assertEqual(self.timed(fewest_cells, Page(chain), 9), list(range(10)))

    def test_all_that_can_come(self):
        names = NAMES[:5]
        cells = [[step("a", "f")], [step("a", "g")]]
        cells += [[("copy", names[at], names[at - 1])] for at in range(1, 4)]
        page = Page(cells + [[("copy", "e", "d"), step("a", "h")]])
        web, told = self.timed(all_stands, page)
        self.assertGreater(len(told), 250)
        self.assertIs(self.timed(is_closed, page, web, [stand for _, stand in told]), True)
        single = [[step(name, "f"), step(names[at - 1], "g")] for at, name in enumerate(names)]
        page = Page(single + [[("copy", "a", "b"), ("copy", "c", "d")]])
        web, told = self.timed(all_stands, page)
        self.assertIs(self.timed(is_closed, page, web, [stand for _, stand in told]), True)
        page = Page(self.full_cells(6, names))
        ring = self.timed(ring_of, page)
        self.assertIs(self.timed(is_ring, page, ring * 10), True)
        self.assertEqual(self.timed(comes_round, page, [0, 1, 2, 3] * 5, [1, 2, 3, 4, 5] * 4)[0], "grows")
        copies = [[("copy", "k", "a"), ("copy", "a", "b"), ("copy", "b", "c"), ("copy", "c", "k"),
                   ("copy", "k", "d"), ("copy", "d", "e"), ("copy", "e", "k")]]
        page = Page(copies + [[step(name, "f" + name) for name in names]])
        self.assertEqual(self.timed(comes_round, page, [1] * 20, [0] * 19), ("round", 1, 6))

    def chain_web(self, many):
        return [("made", "f", ())] + [("made", "g", (at,)) for at in range(many - 1)]

    def test_again(self):
        web = self.chain_web(12)
        cells = [[step("a", "f")], [step("a", "g", "a")], [("copy", "b", "a")], [("copy", "c", "b")],
                 [("copy", "d", "c")], [step("e", "g", "d")], [("copy", "h", "e")], [("copy", "k", "h")]]
        page = Page(cells)
        wished = {"k": 4, "e": 5, "d": 1, "a": 6}
        word, row = self.timed(come_again, page, web, {}, wished)
        self.assertEqual((word, len(row)), ("again", 25))
        self.assertIs(self.timed(is_again, page, web, {}, wished, row), True)
        self.assertEqual(self.timed(fewest_runs, page, web, {}, {"a": 11, "k": 11})["k"], 17)
        self.assertEqual(len(self.timed(views_along, page, web, {}, wished, row + [0] * 30)), 56)
        without = Page(cells[1:5] + [[step("d", "g", "c")]])
        stand, wished = {"a": 3, "b": 4, "c": 7}, {"a": 2, "d": 11}
        word, views = self.timed(come_again, without, web, stand, wished)
        self.assertEqual(word, "never")
        self.assertGreater(len(views), 1500)
        self.assertIs(self.timed(is_never, without, web, stand, wished, views), True)
        self.assertIsNone(self.timed(lacking, without, web, stand, wished, views))
        wished = {"a": 11, "c": 9, "d": 7}
        self.assertIsNone(self.timed(first_loss, without, web, stand, wished, [1, 2, 3, 4] * 15))
        self.assertEqual(self.timed(first_loss, without, web, stand, wished, [1, 2, 3, 4] * 5 + [0] * 40), 25)

    def test_again_lots(self):
        web = self.chain_web(12)
        page = Page([[step("a", "f")], [step("a", "g", "a")], [("copy", "b", "a")], [("copy", "c", "b")],
                     [("copy", "d", "c")], [step("d", "g", "c")]])
        wished = {"a": 3, "b": 2, "c": 6, "d": 11}
        self.assertEqual(self.timed(enough_lots, page, web, {}, wished), [[0, 1, 2, 3, 4], [0, 1, 2, 3, 5]])
        self.assertEqual(self.timed(needed_lots, page, web, {}, wished), [[0], [1], [2], [3], [4, 5]])

    def test_numbers(self):
        for many, numbers in ((10, [1, *range(7, 16)]), (25, [1, *range(7, 31)]), (9, [1, 3, 5, 7, 9, 11, 12, 13, 14])):
            cells = [CONSTANTS] + self.full_cells(many, NAMES, 3)[1:]
            page = Page(cells)
            asked = self.timed(fewest_asked, page, numbers)
            self.assertEqual(len(asked), 1)
            self.assertIs(self.timed(is_enough, page, numbers, list(lacking_numbers(page, numbers))), True)
            told = self.timed(pass_of, page, numbers, [])
            self.assertIs(self.timed(is_pass, page, numbers, [], told), True)
            words = self.timed(words_by, page, numbers, [])
            for place, one in enumerate(words):
                for at, word in enumerate(one):
                    why = self.timed(open_certificate, page, numbers, [], place, at)
                    self.assertEqual(why is None, word != "open")
                    if why is not None:
                        self.assertIs(is_open_certificate(page, numbers, [], place, at, why), True)
        self.assertIs(is_numbers(page, [10 ** 5000 + at for at in range(9)]), True)

    def test_histories(self):
        page = Page(self.full_cells(7, NAMES))
        numbers = [1, 5, 6, 7, 8, 9, 10]
        told = self.timed(histories, page, numbers)
        self.assertEqual(len(told), 6 ** 3)
        self.timed(history_shown, page, numbers, [2, 3], told[-1])

    def test_saved(self):
        for seed in range(8):
            rng = maker(seed)
            cells = [[step(name, "c" + name) for name in NAMES[:6]]]
            for at in range(5):
                cells.append([step(rng.choice(NAMES[:6]), "f", rng.choice(NAMES[:6])) for _ in range(6)])
                for _ in range(2 if at < 3 else 1):
                    cells[-1].insert(rng.randrange(6), ("show", rng.choice(NAMES[:6])))
            page, numbers = Page(cells), [1, 5, 6, 7, 8, 9]
            values = [[rng.randrange(2 + seed % 3) for one in cell if one[0] == "show"] for cell in cells]
            word, told = self.timed(saved, page, numbers, values)
            self.assertEqual(word == "borne", self.timed(bearing, page, numbers, values) != [])
            self.assertEqual(word == "none", self.timed(is_none_certificate, page, numbers, values, told))
            self.assertEqual(word == "borne", self.timed(fewest_doubts, page, numbers, values) == [])
            self.timed(saved_words, page, numbers, values)

    def test_many_doubts(self):
        """Eight things that are one part, with eight values: seven are to be doubted."""
        cells = [[step("x", "f")] + [("show", "x")] * 8] + [[step("y", "g", "x")] for _ in range(5)]
        page, numbers = Page(cells), [1, 5, 6, 7, 8, 9]
        values = [list(range(8)), [], [], [], [], []]
        self.assertEqual(len(self.timed(fewest_doubts, page, numbers, values)), 7)

    def test_woven(self):
        cells = self.full_cells(6, NAMES)
        page = Page(cells)
        hands = [[at % 6 for at in range(7)]] * 4
        order = [hand for hand in range(4) for _ in range(50)]
        maker(3).shuffle(order)
        self.assertEqual(len(self.timed(woven, page, hands, order)[1]), 200)
        stray = self.timed(strays, page, hands, order)
        self.assertIs(self.timed(is_straying, page, (hands, order[:stray + 1])), True)
        self.timed(stands_behind, page, hands, order)
        self.timed(keeps_fences, page, hands, order, [(0, 0), (1, 3)])
        self.assertTrue(self.timed(conflicts, page))
        self.assertIs(is_straying(page, self.timed(straying, page)), True)
        self.assertEqual(self.timed(conflicts, self.timed(steady_naming, page)), [])
        self.timed(steady_names, page)

    def test_counts(self):
        cells = [[step(name, "c") for name in NAMES[:4]]]
        for hand in range(4):
            cells.append([step(name, "f" + str(hand)) for name in NAMES[:4]] + [("show", NAMES[hand])])
        page = Page(cells)
        hands = [[1], [2], [3], [4]]
        many, stray = self.timed(woven_counts, page, hands)
        self.assertEqual(many, factorial(20) // factorial(5) ** 4)
        for k in (0, stray // 2, stray - 1):
            order = self.timed(kth_order, page, hands, k)
            self.assertIsNotNone(strays(page, hands, order))
        self.assertLess(self.timed(fenced_counts, page, hands, [(1, 0), (2, 1)])[0], many)
        told = self.timed(least_fences, page, [[1], [2]])
        self.assertTrue(told)
        for fences in told:
            self.assertEqual(fenced_counts(page, [[1], [2]], fences)[1], 0)
        page = Page([[step("x", "f"), ("show", "x")] * 10, [step("x", "g"), ("show", "x")] * 10])
        self.assertEqual(self.timed(woven_counts, page, [[0], [1]])[0], comb(40, 20))

    def test_plans(self):
        web = [("given", 0)] + [("made", "f", (at, at)) for at in range(39)]
        keeping = (web, [10 ** 6] * 40, [None, 10 ** 6] * 20, list(range(40)))
        plan = ["make", "load"] * 20
        self.assertIsNone(self.timed(plan_fault, *keeping, plan))
        self.assertEqual(self.timed(plan_price, *keeping, plan), 40 * 10 ** 6)


if __name__ == "__main__":
    unittest.main()
