"""[5.4] to [5.6]: what parts are made of."""

import unittest

from pagestrue.errors import BadTruths
from pagestrue.webparts import decided, depth_of, needs_of, steps_in, tests_in, thinned_web, tree_of
from pagestrue.webs import is_web, joined_webs
from tests.making import a_web, maker, parts_of
from tests.plain import over_worlds, term_of


def named(row):
    """The rows that a row names."""
    return {"made": row[-1], "asked": row[-1], "either": row[1:], "given": ()}[row[0]]


def plain_needs(web, at):
    """All rows of which a row is made."""
    return {at}.union(*[plain_needs(web, need) for need in named(web[at])])


def plain_depth(web, at):
    deepest = max([plain_depth(web, need) for need in named(web[at])], default=0)
    return deepest + (web[at][0] == "made")


def plain_tree(web, at):
    return (web[at][0] == "made") + sum(plain_tree(web, need) for need in named(web[at]))


class NeedsTest(unittest.TestCase):
    def test_measured(self):
        for seed in range(80):
            web = a_web(seed, rows=14, most_asked=4)
            for part in parts_of(web):
                found = plain_needs(web, part)
                kinds = [web[at][0] for at in sorted(found)]
                self.assertEqual(needs_of(web, part), sorted(found))
                self.assertEqual(steps_in(web, part), kinds.count("made"))
                self.assertEqual(tests_in(web, part), [at for at in sorted(found)
                                                       if web[at][0] == "asked"])
                self.assertEqual(depth_of(web, part), plain_depth(web, part))
                self.assertEqual(tree_of(web, part), plain_tree(web, part))
                self.assertLessEqual(depth_of(web, part), steps_in(web, part))
                self.assertLessEqual(steps_in(web, part), tree_of(web, part))

    def test_given_and_great(self):
        self.assertEqual((needs_of([("given", 7)], 0), steps_in([("given", 7)], 0)), ([0], 0))
        self.assertEqual((tests_in([("given", 7)], 0), depth_of([("given", 7)], 0)), ([], 0))
        self.assertEqual(tree_of([("given", 7)], 0), 0)
        web = [("made", "f", ())]
        for at in range(990):
            web.append(("made", "f", (at, at)))
        self.assertEqual(tree_of(web, 990), 2 ** 991 - 1)
        self.assertEqual((depth_of(web, 990), steps_in(web, 990)), (991, 991))

    def test_thinned(self):
        self.assertEqual(thinned_web([("given", 0)], []), ([], []))
        for seed in range(80):
            rng = maker(seed)
            web = a_web(seed, rows=14)
            parts = [rng.choice(parts_of(web)) for _ in range(rng.randint(1, 3))]
            told, places = thinned_web(web, parts)
            self.assertTrue(is_web(told))
            needed = set().union(*[plain_needs(web, part) for part in parts])
            self.assertEqual(len(told), len(needed))
            self.assertEqual([row[:2] for row in told if row[0] != "either"],
                             [web[at][:2] for at in sorted(needed) if web[at][0] != "either"])
            joined, where = joined_webs(web, told)
            self.assertEqual((joined, where), (web, sorted(needed)))
            self.assertEqual([where[place] for place in places], parts)


class DecidedTest(unittest.TestCase):
    def test_by_its_own_truth(self):
        web = [("given", 0), ("given", 1), ("asked", "s", ()), ("either", 2, 0, 1), ("asked", "t", (3,)),
               ("asked", "t", (0,)), ("either", 4, 0, 1), ("either", 5, 0, 1), ("made", "f", (6, 7))]
        self.assertEqual(decided(web, {2: True, 4: False, 5: True}), (
            [("given", 0), ("given", 1), ("asked", "s", ()), ("asked", "t", (0,)), ("made", "f", (1, 0))],
            [0, 1, 2, 0, 3, 3, 1, 0, 4]))
        self.assertEqual(decided(web, {}), (web, list(range(9))))

    def test_sides_that_come_to_be_one(self):
        web = [("given", 0), ("given", 1), ("asked", "s", ()), ("asked", "t", ()), ("either", 2, 0, 1),
               ("either", 3, 4, 0), ("made", "f", (5,))]
        told = web[:4] + [("made", "f", (0,))]
        self.assertEqual(decided(web, {2: True}), (told, [0, 1, 2, 3, 0, 0, 4]))

    def test_decided(self):
        for seed in range(120):
            rng = maker(seed)
            web = a_web(seed, rows=14, most_asked=4)
            asked = [at for at, row in enumerate(web) if row[0] == "asked"]
            some = rng.sample(asked, rng.randint(0, len(asked)))

            def act(ask):
                truths = {at: term_of(web, at, ask) for at in asked}
                mine = {at: truths[at] for at in some}
                told, places = decided(web, mine)
                self.assertTrue(is_web(told))
                self.assertEqual(len(places), len(web))
                for at in range(len(web)):
                    self.assertEqual(term_of(web, at, ask), term_of(told, places[at], ask))
                whole, ends = decided(web, truths)
                self.assertNotIn("either", [row[0] for row in whole])
                rest = {places[at]: truths[at] for at in asked}
                again, its = decided(told, rest)
                self.assertEqual(again, whole)
                self.assertEqual([its[place] for place in places], ends)

            over_worlds(act)

    def test_truths_of_asked_rows_alone(self):
        web = [("given", 0), ("asked", "t", ()), ("given", 1), ("either", 1, 0, 2)]
        for truths in [None, [], {0: True}, {3: True}, {4: True}, {True: True}, {1.0: True}, {1: 0},
                       {"1": True}, {1: None}, {(1,): True}]:
            with self.assertRaises(BadTruths) as caught:
                decided(web, truths)
            self.assertIs(caught.exception.truths, truths)


if __name__ == "__main__":
    unittest.main()
