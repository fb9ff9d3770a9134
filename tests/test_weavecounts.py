"""[14.6], [14.7]: orders counted, and kept together."""

import unittest
from itertools import combinations
from math import comb

from pagestrue.fences import fenced_counts, keeps_fences, least_fences
from pagestrue.pages import Page
from pagestrue.refusals import BadFences, BadK
from pagestrue.steadiness import conflicts
from pagestrue.weavecounts import kth_order, woven_counts
from tests.making import maker
from tests.weavings import Weaving, orders_of, some_hands, weaving_cells


def step(name, does, *names):
    return ("set", name, does, list(names))


class CountTest(unittest.TestCase):
    def test_all_whole_orders(self):
        several = 0
        for seed in range(250):
            cells = weaving_cells(seed, values=2 + seed % 2)
            weaving = Weaving(cells)
            hands = some_hands(seed, 3, 1 + seed % 4, 7, weaving)
            orders = weaving.whole_orders(hands)
            straying = [order for order in orders if weaving.stray(hands, order) is not None]
            page = Page(cells)
            self.assertEqual(woven_counts(page, hands), (len(orders), len(straying)))
            several += 0 < len(straying) < len(orders)
            if not conflicts(page):
                self.assertEqual(straying, [])
            rng = maker(seed)
            for k in {0, len(straying) - 1, *(rng.randrange(len(orders)) for _ in range(4))}:
                if 0 <= k < len(straying):
                    self.assertEqual(kth_order(page, hands, k), straying[k])
                else:
                    with self.assertRaises(BadK):
                        kth_order(page, hands, k)
        self.assertGreater(several, 40)

    def test_one_and_two_hands(self):
        page = Page([[step("x", "f"), step("x", "g", "x"), ("show", "x")], [("show", "x")] * 3, []])
        self.assertEqual(woven_counts(page, [[1, 1, 1]]), (1, 0))
        self.assertEqual(woven_counts(page, [[0, 1, 2]])[0], 1)
        self.assertEqual(woven_counts(page, []), (1, 0))
        self.assertEqual(woven_counts(page, [[2], [], [2, 2]]), (1, 0))
        for one in range(4):
            for other in range(4):
                self.assertEqual(woven_counts(page, [[1] * one, [1] * other]),
                                 (comb(3 * one + 3 * other, 3 * one), 0))

    def test_exact_however_great(self):
        page = Page([[step("x", "f"), ("show", "x")] * 5, [step("x", "g"), ("show", "x")] * 5])
        many, stray = woven_counts(page, [[0], [1]])
        self.assertEqual(many, comb(20, 10))
        # Only pairs done at once do not stray: a set, then its show.
        self.assertEqual(many - stray, comb(10, 5))
        self.assertEqual(kth_order(page, [[0], [1]], 0), [0] * 9 + [1] + [0] + [1] * 9)
        last = kth_order(page, [[0], [1]], stray - 1)
        self.assertEqual(last, [1] * 9 + [0] + [1] + [0] * 9)


class FencesTest(unittest.TestCase):
    def all_fences(self, cells):
        return [(cell, at) for cell in range(len(cells)) for at in range(len(cells[cell]) - 1)]

    def test_counts_by_all_orders(self):
        for seed in range(150):
            cells = weaving_cells(seed)
            weaving = Weaving(cells)
            hands = some_hands(seed, 3, 2 + seed % 2, 7, weaving)
            rng = maker(seed)
            page = Page(cells)
            every = self.all_fences(cells)
            fences = sorted(rng.sample(every, rng.randint(0, len(every))))
            orders = weaving.whole_orders(hands)
            kept = [order for order in orders if weaving.keeps(hands, order, fences)]
            straying = [order for order in kept if weaving.stray(hands, order) is not None]
            self.assertEqual(fenced_counts(page, hands, fences), (len(kept), len(straying)))
            for order in orders[:40]:
                self.assertIs(keeps_fences(page, hands, order, fences), order in kept)
                self.assertIs(keeps_fences(page, hands, order[:4], [list(one) for one in fences]),
                              weaving.keeps(hands, order[:4], fences))
            for fewer in range(len(fences)):
                self.assertGreaterEqual(fenced_counts(page, hands, fences[:fewer])[0], len(kept))

    def test_all_fences_keep_whole_cells(self):
        for seed in range(100):
            cells = weaving_cells(seed)
            weaving = Weaving(cells)
            hands = some_hands(seed, 3, 2, 8, weaving)
            shown = [[cell for cell in hand if cells[cell]] for hand in hands]
            whole = list(orders_of([len(hand) for hand in shown]))
            self.assertEqual(fenced_counts(Page(cells), hands, self.all_fences(cells))[0], len(whole))

    def test_least_fences(self):
        met = {}
        for seed in range(250):
            cells = weaving_cells(seed, values=2 + seed % 2)
            weaving = Weaving(cells)
            hands = some_hands(seed, 3, 2, 6, weaving)
            mine = {cell for hand in hands for cell in hand}
            every = [pair for pair in self.all_fences(cells) if pair[0] in mine]
            orders = [order for order in weaving.whole_orders(hands) if weaving.stray(hands, order) is not None]
            good = []
            for many in range(len(every) + 1):
                for lot in combinations(every, many):
                    if not any(set(one) <= set(lot) for one in good):
                        if not any(weaving.keeps(hands, order, lot) for order in orders):
                            good.append(list(lot))
            told = least_fences(Page(cells), hands)
            self.assertEqual(told, sorted(good))
            key = len(told[0]) if len(told) == 1 else -len(told)
            met[key] = met.get(key, 0) + 1
        self.assertGreater(min(met[0], met[1]), 10)
        self.assertTrue(min(met) <= -2 and max(met) >= 2)

    def test_edges(self):
        page = Page([[step("x", "f"), ("show", "x")], [step("x", "g")], [("show", "x")], []])
        self.assertEqual(least_fences(page, [[0], [1]]), [[(0, 0)]])
        self.assertEqual(least_fences(page, [[0], [3]]), [[]])
        self.assertEqual(least_fences(page, []), [[]])
        self.assertEqual(least_fences(page, [[2], [0]]), [])
        self.assertEqual(fenced_counts(page, [[0], [1]], [(0, 0)]), (2, 0))
        self.assertEqual(fenced_counts(page, [[0], [1]], []), (3, 1))
        self.assertEqual(fenced_counts(page, [[1], [1]], [(0, 0)]), (2, 0))
        self.assertIs(keeps_fences(page, [[0], [1]], [0], [(0, 0)]), True)
        self.assertIs(keeps_fences(page, [[0], [1]], [0, 1], [(0, 0)]), False)
        self.assertIs(keeps_fences(page, [[0], [0]], [0, 1], [(0, 0)]), False)
        self.assertIs(keeps_fences(page, [[0], [1]], [1, 0, 0], [(0, 0)]), True)
        self.assertIs(keeps_fences(page, [], [], []), True)

    def test_behind_the_last_statement_there_is_no_fence(self):
        page = Page([[step("x", "f"), ("show", "x")], [step("x", "g")], []])
        for fences, index in ([(0, 1)], 0), ([(0, 0), (1, 0)], 1), ([(2, 0)], 0), ([(0, 0), (0, 0)], 1):
            with self.assertRaises(BadFences) as caught:
                fenced_counts(page, [[0], [1]], fences)
            self.assertEqual(caught.exception.index, index)


if __name__ == "__main__":
    unittest.main()
