"""[12.6], [12.7]: why something is open, and whom to ask."""

import unittest
from itertools import combinations

from pagestrue.opencertificates import fewest_asked, is_enough, is_open_certificate, open_certificate
from pagestrue.pages import Page
from tests.pasts import has_given, some_pasts


def step(name, does, *names):
    return ("set", name, does, list(names))


class CertificateTest(unittest.TestCase):
    def is_why(self, past, place, at, thing):
        """Word by word whether it is a certificate, its histories being some."""
        terms = [past.run(history)[1][place][at] for history in thing[1:]]
        if thing[0] == "given":
            return has_given(terms[0])
        unlike = [number for number in range(past.last) if thing[1][number] != thing[2][number]]
        return len(unlike) == 1 and terms[0] != terms[1]

    def test_just_one_of_sure_and_a_certificate(self):
        met = {"two": 0, "given": 0, None: 0}
        for past in some_pasts(200, most_strangers=1) + some_pasts(150, cells=4, shows=1):
            all_of_them = past.histories(past.strangers)
            shown = [past.run(history)[1] for history in all_of_them]
            for place, at in past.things():
                is_sure = past.common([one[place][at] for one in shown]) is not None
                told = open_certificate(*past.with_strangers, place, at)
                self.assertEqual(told is None, is_sure)
                met[told and told[0]] += 1
                if told is not None:
                    self.assertTrue(all(history in all_of_them for history in told[1:]))
                    self.assertTrue(self.is_why(past, place, at, told))
                    self.assertIs(is_open_certificate(*past.with_strangers, place, at, told), True)
        self.assertGreater(min(met.values()), 20)

    def test_is_open_certificate_by_all_pairs(self):
        right = 0
        for past in some_pasts(60, most_strangers=1, shows=1):
            all_of_them = past.histories(past.strangers)[:8]
            for place, at in past.things()[:3]:
                for one in all_of_them:
                    told = is_open_certificate(*past.with_strangers, place, at, ["given", tuple(one)])
                    self.assertIs(told, self.is_why(past, place, at, ("given", one)))
                    right += told
                    for other in all_of_them:
                        told = is_open_certificate(*past.with_strangers, place, at, ("two", one, other))
                        self.assertIs(told, self.is_why(past, place, at, ("two", one, other)))
                        right += told
        self.assertGreater(right, 100)

    def test_wrong_things(self):
        page = Page([[step("x", "f")], [step("x", "g"), ("show", "x")], [("show", "x"), ("show", "y")]])
        one, other = [0, 1, 1, 2], [0, 2, 1, 2]
        passed = (page, [1, 3, 4], [], 2)
        self.assertIsNone(open_certificate(*passed, 0))
        self.assertIs(is_open_certificate(*passed, 0, ("two", one, other)), False)
        self.assertEqual(open_certificate(*passed, 1)[0], "given")
        self.assertIs(is_open_certificate(*passed, 1, ("given", other)), True)
        for thing in (None, (), ("given",), ("given", one, other), ("two", one), ("two", one, one),
                      ("two", one, other), ("open", one), ("given", [0, 0, 1, 2]), ("given", [0, None, 1, 2]),
                      "given", {"given": one}, ["given", None]):
            self.assertIs(is_open_certificate(*passed, 1, thing), False)

    def test_the_words(self):
        page = Page([[step("x", "f")], [step("x", "g")], [("show", "x")]])
        passed = (page, [1, 5, 3], [], 2, 0)
        one, other = [0, 1, 2, 1, 1], [0, 2, 2, 1, 1]
        self.assertIs(is_open_certificate(*passed, ("two", one, other)), True)
        for thing in (("open", one, other), ("given", one, other), ("two", one, other, one), (None, one, other),
                      ("two", other, other), ("TWO", one, other), (("two",), one, other)):
            self.assertIs(is_open_certificate(*passed, thing), False)

    def test_a_stranger(self):
        page = Page([[step("x", "f")], [("show", "x")]])
        self.assertIsNone(open_certificate(page, [1, 3], [], 1, 0))
        self.assertEqual(open_certificate(page, [1, 3], [2], 1, 0), ("given", [0, None, 1]))
        self.assertIs(is_open_certificate(page, [1, 3], [2], 1, 0, ("two", [0, None, 1], [0, 1, 1])), True)


class AskedTest(unittest.TestCase):
    def plain_enough(self, past, lot, runs):
        """Whether, among the histories with just the runs at the lot's numbers, each thing is sure."""
        by_runs = {}
        for history, shown in runs:
            by_runs.setdefault(tuple(history[number - 1] for number in lot), []).append(shown)
        return all(past.common([one[place][at] for one in group]) is not None
                   for group in by_runs.values() for place, at in past.things())

    def test_by_all_lots(self):
        met = {}
        for past in some_pasts(250, cells=3) + some_pasts(120, cells=4, most_gaps=2):
            runs = [(history, past.run(history)[1]) for history in past.histories()]
            lots = [list(lot) for many in range(len(past.gaps) + 1) for lot in combinations(past.gaps, many)]
            enough = [lot for lot in lots if self.plain_enough(past, lot, runs)]
            for lot in lots:
                self.assertIs(is_enough(*past.passed, lot), lot in enough)
                if lot in enough:
                    self.assertTrue(all(more in enough for more in lots if set(lot) <= set(more)))
            least = [lot for lot in enough if len(lot) == min(map(len, enough))]
            self.assertEqual(fewest_asked(*past.passed), sorted(least))
            key = len(least[0]) if least else None
            met[key] = met.get(key, 0) + 1
        self.assertGreater(min(met[None], met[0], met[1], met[2]), 3)

    def test_edges(self):
        page = Page([[step("x", "f"), ("show", "x")], [step("x", "g")], [("show", "x")]])
        self.assertEqual(fewest_asked(page, [3, 2, 0]), [[]])
        self.assertEqual(fewest_asked(page, [0, 0, 0]), [[]])
        self.assertEqual(fewest_asked(page, [0, 0, 1]), [])
        self.assertEqual(fewest_asked(page, [2, 5, 3]), [[]])
        self.assertEqual(fewest_asked(page, [4, 5, 6]), [[]])
        self.assertEqual(fewest_asked(Page([]), []), [[]])

    def test_what_runs_behind_may_hide_it(self):
        """At 5 x may come to be g's or stay, but at 6 it is made anew."""
        page = Page([[step("x", "f"), step("y", "f")], [step("x", "g")], [("copy", "y", "x")],
                     [("copy", "x", "y"), step("z", "h", "x", "y"), ("show", "z")]])
        self.assertEqual(fewest_asked(page, [1, 9, 4, 6]), [[2, 3]])
        self.assertIs(is_enough(page, [1, 9, 4, 6], [2, 3, 5, 7]), True)
        self.assertIs(is_enough(page, [1, 9, 4, 6], [2, 5]), False)

    def test_two_copies_are_one_part_whoever_left_it(self):
        """Who ran at 2 counts; at 4, where x is y's part, it does not count which of them is copied."""
        page = Page([[step("x", "f")], [("copy", "y", "x")], [("copy", "x", "y")], [step("x", "g"), ("copy", "y", "x")],
                     [("copy", "y", "x"), ("show", "y")], [("copy", "x", "y"), ("show", "x")]])
        self.assertEqual(fewest_asked(page, [1, 3, 0, 0, 5, 6]), [])
        page = Page([[step("x", "f"), step("y", "g")], [("copy", "x", "y")], [("copy", "y", "x"), ("show", "y")],
                     [("copy", "x", "y"), ("show", "x")]])
        self.assertEqual(fewest_asked(page, [1, 3, 5, 6]), [[2]])


if __name__ == "__main__":
    unittest.main()
