"""[15.3] to [15.6]: flows, the least price, what is worth loading, what is at hand."""

import unittest
from itertools import combinations

from pagestrue.keepflows import flow_fault, flow_sum
from pagestrue.keepplans import plan_fault, plan_price
from pagestrue.leastkeeping import fewest_at_hand, least_keeping, shelf_worth
from pagestrue.refusals import BadFlow, BadIndex, BadPrice
from tests.keepings import a_keeping, all_plans, least_price, needs_of_row
from tests.making import Strange, maker

CHAIN = [("given", 0), ("made", "f", (0, 0)), ("made", "g", (1, 0)), ("asked", "t", (2,)), ("either", 3, 1, 0)]


def plain_flow_fault(keeping, flow):
    """The fault of a list of things, word by word."""
    web, making, loading, wanted = keeping
    for at, way in enumerate(flow):
        if type(way) not in (tuple, list) or len(way) != 2 or type(way[0]) is not int or way[0] <= 0:
            return ("way", at)
        rows = way[1]
        if type(rows) not in (tuple, list) or not rows or any(type(row) is not int for row in rows):
            return ("way", at)
        if any(not 0 <= row < len(web) for row in rows) or rows[0] not in wanted:
            return ("way", at)
        if any(rows[one + 1] not in needs_of_row(web[rows[one]]) for one in range(len(rows) - 1)):
            return ("way", at)
    for row in range(len(web)):
        if loading[row] is not None and sum(way[0] for way in flow if row in way[1]) > loading[row]:
            return ("load", row)
    for row in range(len(web)):
        if sum(way[0] for way in flow if row == way[1][-1]) > making[row]:
            return ("make", row)
    return None


class FlowTest(unittest.TestCase):
    def some_flow(self, rng, keeping):
        """Ways, most of them right ones."""
        web, _, _, wanted = keeping
        told = []
        for _ in range(rng.randint(0, 4)):
            rows = [rng.choice(wanted if wanted and rng.random() < 0.9 else range(len(web)))]
            while needs_of_row(web[rows[-1]]) and rng.random() < 0.6:
                rows.append(rng.choice(needs_of_row(web[rows[-1]])))
            if rng.random() < 0.05:
                rows.append(rng.choice([rows[0], True, -1, len(web), "0", None]))
            told.append((rng.choice([1, 1, 1, 2, 3, 5, 0, -1, True, "1"][:6 + 4 * (rng.random() < 0.1)]), rows))
        return told

    def test_faults(self):
        met = {}
        for seed in range(3000):
            keeping = a_keeping(seed, rows=6, most_wanted=4)
            if keeping[0]:
                flow = self.some_flow(maker(seed + 7), keeping)
                fault = plain_flow_fault(keeping, flow)
                self.assertEqual(flow_fault(*keeping, flow), fault)
                met[fault and fault[0]] = met.get(fault and fault[0], 0) + 1
        self.assertGreater(min(met[word] for word in (None, "way", "load", "make")), 100)

    def test_edges(self):
        keeping = (CHAIN, [4, 1, 2, 0, 0], [3, None, 5, None, 6], [2, 4])
        self.assertIsNone(flow_fault(*keeping, []))
        self.assertIsNone(flow_fault(*keeping, [(1, [2, 1, 0]), (2, [4, 0]), (1, [2, 1])]))
        self.assertEqual(flow_fault(*keeping, [(1, [2, 1, 0]), (3, [4, 0])]), ("load", 0))
        self.assertEqual(flow_fault(*keeping, [(2, [2, 1])]), ("make", 1))
        self.assertEqual(flow_fault(*keeping, [(6, [2, 1]), (1, [1])]), ("way", 1))
        self.assertEqual(flow_fault(*keeping, [(7, [4]), (6, [2])]), ("load", 2))
        self.assertEqual(flow_fault(*keeping, [(1, [4])]), ("make", 4))
        for way in ((0, [2]), (1, []), (1, [0]), (1, [2, 2]), (1, [2, 0, 1]), (1, 2), (1, "2"), (True, [2]),
                    (1, [True]), (1.0, [2]), (1, [2], 0), (1,), None, "1", {}, Strange(), (Strange(), [2]),
                    (1, [Strange()]), (1, [5]), (1, [-1]), (1, [3])):
            self.assertEqual(flow_fault(*keeping, [(1, [2, 1]), way]), ("way", 1))
        for thing in (None, 0, "", {}, Strange()):
            self.assertEqual(flow_fault(*keeping, thing), ("way", 0))
        self.assertEqual(flow_fault(*keeping, ((10 ** 4000, (2,)),)), ("load", 2))

    def test_sums(self):
        self.assertEqual(flow_sum([]), 0)
        self.assertEqual(flow_sum(((3, []), [10 ** 400, ("a", None)])), 10 ** 400 + 3)
        for flow in (None, "", {}, [None], [(0, [])], [(-1, [])], [(True, [])], [(1, "2")], [(1, {})], [(1,)],
                     [(1, [], 1)], [(1, []), (1.0, [])], [(1, []), 1], [("1", [])]):
            with self.assertRaises(BadFlow) as caught:
                flow_sum(flow)
            self.assertIs(caught.exception.flow, flow)


class LeastTest(unittest.TestCase):
    def test_all_plans(self):
        """One number; of all plans of this price the one that has and makes least."""
        several = 0
        for seed in range(350):
            keeping = a_keeping(seed, rows=4 + seed % 3, most_wanted=3)
            plans = all_plans(keeping)
            price, plan, flow = least_keeping(*keeping)
            best = [one for cost, one in plans if cost == min(plans)[0]]
            several += len(best) > 1
            self.assertEqual(price, min(plans)[0])
            self.assertEqual(price, least_price(keeping))
            self.assertIn(tuple(plan), best)
            self.assertEqual(plan_price(*keeping, plan), price)
            for other in best:
                for word, its in zip(plan, other):
                    self.assertFalse(word != "out" and its == "out")
                    self.assertFalse(word == "make" and its != "make")
            self.check_flow(keeping, price, flow)
        self.assertGreater(several, 80)

    def check_flow(self, keeping, price, flow):
        self.assertIsNone(plain_flow_fault(keeping, flow))
        self.assertIsNone(flow_fault(*keeping, flow))
        self.assertEqual(sum(way[0] for way in flow), price)
        self.assertEqual(flow_sum(flow), price)
        self.assertIs(type(flow), list)
        self.assertTrue(all(type(way) is tuple and type(way[1]) is list for way in flow))

    def test_greater_webs(self):
        for seed in range(150):
            keeping = a_keeping(seed, rows=8 + seed % 7, most_wanted=6, most=(6, 10 ** 6, 10 ** 30)[seed % 3])
            price, plan, flow = least_keeping(*keeping)
            self.assertEqual(price, least_price(keeping))
            self.assertIsNone(plan_fault(*keeping, plan))
            self.assertEqual(plan_price(*keeping, plan), price)
            self.check_flow(keeping, price, flow)

    def test_no_flow_is_above_a_plan(self):
        """Any flow's sum against any plan's price."""
        for seed in range(400):
            keeping = a_keeping(seed, rows=5, most_wanted=3)
            if keeping[0]:
                flow = FlowTest().some_flow(maker(seed), keeping)
                if flow_fault(*keeping, flow) is None:
                    self.assertLessEqual(flow_sum(flow), least_keeping(*keeping)[0])

    def test_edges(self):
        self.assertEqual(least_keeping([], [], [], []), (0, [], []))
        self.assertEqual(least_keeping(CHAIN, [1] * 5, [1] * 5, []), (0, ["out"] * 5, []))
        self.assertEqual(least_keeping(CHAIN, [0] * 5, [None] * 5, [4]), (0, ["make"] * 4 + ["make"], []))
        self.assertEqual(least_keeping(CHAIN, [9] * 5, [0] * 5, [2, 4])[:2], (0, ["out", "out", "load", "out", "load"]))
        self.assertEqual(least_keeping(CHAIN, [0] * 5, [0] * 5, [4])[1], ["out"] * 4 + ["load"])
        self.assertEqual(least_keeping(CHAIN[:2], [2, 3], [None, None], [1]),
                         (5, ["make", "make"], least_keeping(CHAIN[:2], [2, 3], [None, None], [1])[2]))
        # A row wanted alone that needs nothing; all that is asked of is loaded at its price, not made for the same.
        self.assertEqual(least_keeping([("given", 7)], [4], [4], [0]), (4, ["load"], [(4, [0])]))
        self.assertEqual(least_keeping([("given", 7)], [4], [5], [0]), (4, ["make"], [(4, [0])]))


class WorthTest(unittest.TestCase):
    def test_sliding(self):
        """What a row is worth, and the least price for whatever price of it."""
        worths = {}
        for seed in range(250):
            web, making, loading, wanted = a_keeping(seed, rows=6, most_wanted=3)
            for index in range(len(web)):
                def price_with(price):
                    return least_price((web, making, [price if at == index else old
                                                      for at, old in enumerate(loading)], wanted))
                without = price_with(None)
                worth = shelf_worth(web, making, loading, wanted, index)
                self.assertEqual(worth, without - price_with(0))
                worths[worth > 0] = worths.get(worth > 0, 0) + 1
                for price in (0, 1, 2, 5, 40):
                    self.assertEqual(price_with(price), without - max(0, worth - price))
                    self.assertEqual(price_with(price) < without, price < worth)
        self.assertGreater(min(worths.values()), 200)

    def test_wanted_lots(self):
        """All of both and what both have cost at most what the two cost."""
        for seed in range(250):
            web, making, loading, _ = a_keeping(seed, rows=7)
            rng = maker(seed)
            one, other = [{at for at in range(len(web)) if rng.random() < 0.4} for _ in range(2)]

            def price(lot):
                return least_keeping(web, making, loading, sorted(lot))[0]

            self.assertLessEqual(price(one | other) + price(one & other), price(one) + price(other))

    def test_wrong_index(self):
        for index in (None, -1, 5, True, "0", 1.0, [0], 10 ** 4000):
            with self.assertRaises(BadIndex) as caught:
                shelf_worth(CHAIN, [1] * 5, [1] * 5, [4], index)
            self.assertIs(caught.exception.index, index)
        with self.assertRaises(BadIndex):
            shelf_worth([], [], [], [], 0)


class AtHandTest(unittest.TestCase):
    def test_all_lots(self):
        met = {}
        for seed in range(160):
            keeping = a_keeping(seed, rows=6, most_wanted=4)
            web, making, loading, wanted = keeping

            def price_with(lot):
                return least_price((web, making, [0 if at in lot else old for at, old in enumerate(loading)], wanted))

            whole = price_with(())
            for price in {0, 1, whole // 2, whole - 1, whole, whole + 3} - {-1}:
                lots = [list(lot) for many in range(len(web) + 1) for lot in combinations(range(len(web)), many)
                        if price_with(lot) <= price]
                told = fewest_at_hand(*keeping, price)
                self.assertEqual(told, lots[0])
                met[len(told)] = met.get(len(told), 0) + 1
        self.assertGreater(min(met[many] for many in range(4)), 20)

    def test_edges(self):
        self.assertEqual(fewest_at_hand([], [], [], [], 0), [])
        self.assertEqual(fewest_at_hand(CHAIN, [1] * 5, [None] * 5, [1, 2], 0), [1, 2])
        self.assertEqual(fewest_at_hand(CHAIN, [1, 0, 0, 0, 0], [None] * 5, [1, 2, 4], 0), [0])
        self.assertEqual(fewest_at_hand(CHAIN, [1] * 5, [None] * 5, [4], 10 ** 4000), [])
        for price in (None, -1, True, "0", 1.0, []):
            with self.assertRaises(BadPrice) as caught:
                fewest_at_hand(CHAIN, [1] * 5, [None] * 5, [4], price)
            self.assertIs(caught.exception.price, price)

    def test_the_same_however_it_is_asked(self):
        keeping = a_keeping(5, rows=7, most_wanted=4)
        self.assertEqual(least_keeping(*keeping), least_keeping(*[tuple(one) for one in keeping]))


if __name__ == "__main__":
    unittest.main()
