"""[6.5]: pages that are alike from the top."""

import unittest

from pagestrue.alikepages import pages_part
from pagestrue.alikeparts import parting_meaning
from pagestrue.errors import BadPage, BadWhat, Unsound
from pagestrue.pages import Page
from pagestrue.tops import top
from pagestrue.webs import joined_webs
from tests.making import maker, sound_cells
from tests.plain import over_worlds, plain_row


def plain_parts(cells, other, what):
    """In all worlds: whether shown, or left, are one by one the same; the places where not."""
    wrong = set()

    def act(ask):
        told = [plain_row(one, range(len(one)), {}, ask) for one in (cells, other)]
        if what == "left":
            mine, its = told[0][1], told[1][1]
            wrong.update(name for name in mine if name in its and mine[name] != its[name])
        else:
            mine, its = [[part for run in one[0] for part in run[0]] for one in told]
            wrong.update(at for at, two in enumerate(zip(mine, its)) if two[0] != two[1])

    over_worlds(act)
    return sorted(wrong)


class PagesPartTest(unittest.TestCase):
    def test_shown_whatever_the_cells(self):
        one = Page([[("set", "x", "f", []), ("show", "x")], [("show", "x")]])
        other = Page([[], [("set", "y", "f", []), ("show", "y"), ("show", "y"), ("set", "z", "g", [])]])
        self.assertIsNone(pages_part(one, other, "shown"))
        self.assertEqual(pages_part(one, other, "left"), ("name", "x"))
        self.assertEqual(pages_part(other, Page([]), "shown"), ("many", 2, 0))
        self.assertEqual(pages_part(Page([]), Page([]), "left"), None)

    def test_unlike(self):
        one = Page([[("set", "x", "f", []), ("show", "x"), ("set", "y", "g", ["x"])]])
        other = Page([[("set", "x", "g", []), ("show", "x"), ("set", "y", "g", ["x"])]])
        web = [("made", "f", ()), ("made", "g", (0,)), ("made", "g", ()), ("made", "g", (2,))]
        self.assertEqual(pages_part(one, other, "shown"), ("unlike", 0, web, 0, 2, [0, 1, 2, 3]))
        self.assertEqual(pages_part(one, other, "left"), ("unlike", "x", web, 0, 2, [0, 1, 2, 3]))

    def test_errors(self):
        page, unsound = Page([]), Page([[], [("show", "x")]])
        for args, error in [((None, None, None), BadPage), ((page, 5, None), BadPage),
                            ((unsound, 5, None), Unsound), ((page, unsound, None), Unsound),
                            ((page, page, "both"), BadWhat), ((page, page, None), BadWhat)]:
            with self.assertRaises(error):
                pages_part(*args)

    def test_just_one(self):
        kinds = {}
        for seed in range(700):
            rng = maker(seed)
            cells = sound_cells(seed % 60, depth=1, steps=1, tests=1, values=2)
            other = sound_cells(seed % 60 if seed % 3 else seed, depth=1, steps=1, tests=1, values=2)
            if seed % 3:
                other = self.changed(rng, other)
            for what in ("shown", "left"):
                told = pages_part(Page(cells), Page(other), what)
                wrong = plain_parts(cells, other, what)
                kinds[(what, told and told[0])] = True
                self.check(Page(cells), Page(other), told, wrong)
        self.assertEqual(len(kinds), 6)

    def changed(self, rng, cells):
        """The cells in another cutting, or with a statement behind."""
        if rng.random() < 0.5:
            return [[statement for cell in cells for statement in cell]]
        return cells + [[("set", "a", "f", [])]]

    def check(self, page, other, told, wrong):
        mine, its = top(page), top(other)
        if told is None:
            self.assertEqual(wrong, [])
        elif told[0] == "many":
            self.assertEqual(told[1:], tuple(sum(len(one) for one in each[1]) for each in (mine, its)))
            self.assertNotEqual(told[1], told[2])
        elif told[0] == "name":
            self.assertEqual(told[1], min(set(mine[3]) ^ set(its[3])))
        else:
            _, at, web, one, part, meaning = told
            joined, places = joined_webs(mine[0], its[0])
            self.assertEqual((at, web), (wrong[0], joined))
            shown = [[thing for run in each[1] for thing in run] for each in (mine, its)]
            parts = (shown[0][at], shown[1][at]) if isinstance(at, int) else (mine[3][at], its[3][at])
            self.assertEqual((one, part), (parts[0], places[parts[1]]))
            self.assertEqual(meaning, parting_meaning(web, one, part))
            self.assertNotEqual(meaning[one], meaning[part])


if __name__ == "__main__":
    unittest.main()
