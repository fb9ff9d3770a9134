"""[6.3], [6.6]: parts that are alike."""

import unittest

from pagestrue.alikeparts import alike_parts, are_alike, parting_meaning
from pagestrue.meanings import choice_lists, free_meaning, is_meaning
from tests.making import a_web, parts_of
from tests.plain import all_meanings, are_plainly_alike


class AlikeTest(unittest.TestCase):
    def test_unlike_parts_that_are_alike(self):
        web = [("given", 0), ("given", 1), ("asked", "t", ()), ("either", 2, 0, 1), ("either", 2, 1, 0),
               ("either", 2, 3, 4), ("made", "f", (5, 1)), ("made", "f", (0, 1)), ("either", 2, 3, 1)]
        self.assertEqual(alike_parts(web), [[0, 5], [1], [3, 8], [4], [6, 7]])
        self.assertIs(are_alike(web, 6, 7), True)
        self.assertIs(are_alike(web, 3, 4), False)

    def test_tests_of_like_things(self):
        web = [("given", 0), ("asked", "t", (0,)), ("made", "f", ()), ("either", 1, 0, 2),
               ("asked", "t", (3,)), ("either", 4, 3, 2), ("made", "g", (3,)), ("made", "g", (5,))]
        # Where t is Yes of the given one, row 3 is it, so row 4 is Yes, too.
        self.assertEqual(alike_parts(web), [[0], [2], [3, 5], [6, 7]])

    def test_by_all_worlds(self):
        both = [0, 0]
        for seed in range(150):
            web = a_web(seed, rows=12, most_asked=4, steps=1, tests=1 + seed % 2)
            parts = parts_of(web)
            lots = alike_parts(web)
            self.assertEqual(sorted(part for lot in lots for part in lot), parts)
            self.assertEqual(lots, sorted(sorted(lot) for lot in lots))
            for one in parts:
                for other in parts:
                    is_like = are_plainly_alike(web, one, other)
                    both[is_like and one != other] += 1
                    self.assertIs(are_alike(web, one, other), is_like)
                    self.assertEqual(any(one in lot and other in lot for lot in lots), is_like)
        self.assertGreater(both[1], 100)

    def test_by_all_right_meanings(self):
        for seed in range(60):
            web = a_web(seed, rows=6, most_asked=2, steps=1, tests=1)
            meanings = list(all_meanings(web, 4))
            for one in parts_of(web):
                for other in parts_of(web):
                    self.assertEqual(are_alike(web, one, other),
                                     all(meaning[one] == meaning[other] for meaning in meanings))

    def test_the_least_parting(self):
        for seed in range(100):
            web = a_web(seed, rows=11, most_asked=4, steps=1, tests=1 + seed % 2)
            free = [free_meaning(web, choices) for choices in choice_lists(web)]
            for one in parts_of(web):
                for other in parts_of(web):
                    partings = [meaning for meaning in free if meaning[one] != meaning[other]]
                    told = parting_meaning(web, one, other)
                    self.assertEqual(told, partings[0] if partings else None)
                    self.assertEqual(told is None, are_alike(web, one, other))
                    self.assertTrue(told is None or is_meaning(web, told))

    def test_it_holds(self):
        for seed in range(60):
            web = a_web(seed, rows=10, most_asked=3)
            lots = {part: at for at, lot in enumerate(alike_parts(web)) for part in lot}
            kinds = [row[0] for row in web]
            for one in lots:
                for other in lots:
                    is_like = lots[one] == lots[other]
                    if kinds[one] == kinds[other] == "made":
                        needs, its = web[one][2], web[other][2]
                        is_same = web[one][1] == web[other][1] and len(needs) == len(its)
                        self.assertEqual(is_like, is_same and all(
                            lots[need] == lots[two] for need, two in zip(needs, its)))
                    if {kinds[one], kinds[other]} == {"made", "given"}:
                        self.assertFalse(is_like)
                    if "either" not in kinds:
                        self.assertEqual(is_like, one == other)
            for many in range(len(web)):
                for lot in alike_parts(web[:many]):
                    self.assertEqual(len({lots[part] for part in lot}), 1)

    def test_a_row_more(self):
        for seed in range(60):
            web = a_web(seed, rows=10, most_asked=3, steps=1, tests=1)
            for many in range(len(web)):
                for one in parts_of(web[:many]):
                    for other in parts_of(web[:many])[:3]:
                        told = parting_meaning(web[:many], one, other)
                        more = parting_meaning(web[:many + 1], one, other)
                        self.assertEqual(told, more and more[:many])

    def test_no_parts(self):
        self.assertEqual(alike_parts([]), [])
        self.assertEqual(alike_parts([("asked", "t", ())]), [])


if __name__ == "__main__":
    unittest.main()
