"""[15.1], [15.2]: plans of what to keep."""

import unittest
from itertools import product

from pagestrue.keepplans import plan_fault, plan_price
from pagestrue.refusals import BadLoading, BadMaking, BadPlan, BadWanted
from tests.making import a_web, maker

WORDS = ("out", "load", "make")


def needs_of_row(row):
    """All rows that a row names."""
    return {"given": (), "either": row[1:]}.get(row[0], row[-1])


class PlanTest(unittest.TestCase):
    def keeping(self, seed, rows=5):
        rng = maker(seed)
        web = a_web(seed, rows=rows)
        making = [rng.randrange(6) for _ in web]
        loading = [rng.choice([None, 0, 3, 10 ** 6]) for _ in web]
        wanted = sorted(rng.sample(range(len(web)), rng.randint(0, min(2, len(web)))))
        return web, making, loading, wanted

    def plain_fault(self, keeping, plan):
        web, _, loading, wanted = keeping
        for at, word in enumerate(plan[:len(web)]):
            if word not in WORDS or word == "out" and at in wanted or word == "load" and loading[at] is None:
                return at
            if word == "make" and any(plan[need] == "out" for need in needs_of_row(web[at])):
                return at
        return None if len(plan) == len(web) else len(web)

    def test_all_plans(self):
        met = [0, 0]
        for seed in range(60):
            keeping = self.keeping(seed)
            web, making, loading, wanted = keeping
            for plan in product(WORDS, repeat=len(web)):
                fault = self.plain_fault(keeping, plan)
                self.assertEqual(plan_fault(*keeping, plan), fault)
                met[fault is None] += 1
                if fault is None:
                    price = sum(loading[at] if word == "load" else making[at]
                                for at, word in enumerate(plan) if word != "out")
                    self.assertEqual(plan_price(*keeping, list(plan)), price)
                else:
                    with self.assertRaises(BadPlan) as caught:
                        plan_price(*keeping, plan)
                    self.assertIs(caught.exception.plan, plan)
        self.assertGreater(min(met), 300)

    def test_wrong_words_and_lengths(self):
        for seed in range(60):
            keeping = self.keeping(seed)
            rng = maker(seed + 999)
            for _ in range(20):
                plan = [rng.choice(WORDS) for _ in range(rng.randint(0, len(keeping[0]) + 2))]
                if plan and rng.random() < 0.5:
                    plan[rng.randrange(len(plan))] = rng.choice(["", "keep", None, 0, True, ["out"], "Out"])
                self.assertEqual(plan_fault(*keeping, plan), self.plain_fault(keeping, plan))

    def test_edges(self):
        web = [("made", "f", ()), ("asked", "t", (0,)), ("made", "g", ()), ("either", 1, 0, 2)]
        keeping = (web, [1, 1, 1, 1], [0, 0, None, 2], [3])
        self.assertEqual(plan_fault(*keeping, ["make", "out", "make", "make"]), 3)
        self.assertEqual(plan_fault(*keeping, ["out", "make", "make", "make"]), 1)
        self.assertIsNone(plan_fault(*keeping, ["out", "load", "out", "load"]))
        self.assertEqual(plan_price(*keeping, ("out", "load", "out", "load")), 2)
        self.assertEqual(plan_fault(*keeping, ["out", "out", "load", "load"]), 2)
        self.assertEqual(plan_fault(*keeping, ["out", "out", "out"]), 4)
        self.assertEqual(plan_fault(*keeping, ["out", "out", "out", "out"]), 3)
        self.assertEqual(plan_fault(*keeping, ["out", "out", "out", "load", None]), 4)
        self.assertEqual(plan_fault(*keeping, ["make"] * 7), 4)
        for thing in (None, "make", {}, 0):
            self.assertEqual(plan_fault(*keeping, thing), 0)
        self.assertIsNone(plan_fault([], [], [], [], []))
        self.assertEqual(plan_fault([], [], [], [], ["out"]), 0)
        self.assertEqual(plan_price([], [], [], [], ()), 0)

    def test_nothing_wanted_and_prices_of_nought(self):
        web = [("given", 0), ("made", "f", (0, 0))]
        self.assertEqual(plan_price(web, [0, 0], [None, None], [], ["out", "out"]), 0)
        self.assertEqual(plan_price(web, [0, 10 ** 30], [None, None], [], ["make", "make"]), 10 ** 30)
        self.assertEqual(plan_price(web, [0, 0], [0, 0], [0, 1], ["load", "make"]), 0)
        self.assertEqual(plan_fault(web, [0, 0], [0, 0], [0], ["make", "out"]), None)

    def test_each_parameter_wholly_at_its_place(self):
        web = [("given", 0), ("made", "f", (0, 0))]
        with self.assertRaises(BadMaking) as caught:
            plan_fault(web, [1], [None], [7], None)
        self.assertEqual(caught.exception.index, 2)
        with self.assertRaises(BadMaking) as caught:
            plan_fault(web, [1, 2, None, 3], [], [], None)
        self.assertEqual(caught.exception.index, 2)
        with self.assertRaises(BadLoading) as caught:
            plan_fault(web, [1, 2], [None, 3, True], [7], None)
        self.assertEqual(caught.exception.index, 2)
        with self.assertRaises(BadWanted) as caught:
            plan_fault(web, [1, 2], [None, 3], [1, 0], None)
        self.assertEqual(caught.exception.index, 1)


if __name__ == "__main__":
    unittest.main()
