"""[4.4], [4.5]: the run from the top."""

import unittest

from pagestrue.cellnames import reads_of, sets_of
from pagestrue.errors import Unsound
from pagestrue.pages import Page
from pagestrue.rowsofruns import played, stand_behind
from pagestrue.tops import first_miss, needs, top, top_behind
from pagestrue.webs import joined_webs
from tests.making import a_web, any_cells, maker, parts_of, sound_cells


class TopTest(unittest.TestCase):
    def test_no_cells(self):
        page = Page([])
        self.assertIsNone(first_miss(page))
        self.assertEqual(top(page), ([], [], [], {}))
        self.assertEqual(needs(page), [])
        self.assertEqual(top_behind([("given", 0)], {"x": 0}, page), ([("given", 0)], [], [], {"x": 0}))

    def test_where_nothing_is_run_the_told_stand_is_new_and_ascending(self):
        web = [("given", 0)]
        for cells in ([], [[]], [[], []], [[("show", "y")]]):
            stand = {"y": 0, "x": 0}
            told = top_behind(web, stand, Page(cells))
            self.assertEqual(list(told[3]), ["x", "y"])
            told[3]["z"] = 0
            told[0].append(("given", 1))
            self.assertEqual((web, stand), ([("given", 0)], {"y": 0, "x": 0}))

    def test_what_is_played_in_order(self):
        sound = 0
        for seed in range(200):
            page = Page(any_cells(seed) if seed % 2 else sound_cells(seed, depth=2))
            web, told = played(page, [0, 1, 2])
            misses = [at for at, run in enumerate(told) if run is None]
            self.assertEqual(first_miss(page), misses[0] if misses else None)
            self.assertEqual(needs(page) == [], not misses)
            if misses:
                with self.assertRaises(Unsound) as caught:
                    top(page)
                self.assertEqual(caught.exception.index, misses[0])
                continue
            sound += 1
            self.assertEqual(top(page), (web, [run[0] for run in told], [run[1] for run in told],
                                         stand_behind(page, [0, 1, 2])[1]))
            self.assertEqual(list(top(page)[3]), sorted(top(page)[3]))
        self.assertGreater(sound, 100)

    def test_a_cell_more(self):
        for seed in range(150):
            cells = sound_cells(seed, depth=1)
            more = any_cells(seed + 400, cells=1)[0]
            standing = {name for cell in cells for name in sets_of(cell)}
            is_sound = set(reads_of(more)) <= standing
            self.assertEqual(first_miss(Page(cells + [more])), None if is_sound else len(cells))

    def test_needs_are_the_least_lot(self):
        names = ["a", "b", "c"]
        lots = [[name for at, name in enumerate(names) if lot >> at & 1] for lot in range(8)]
        web = [("given", 0), ("given", 1), ("given", 2)]
        for seed in range(150):
            page = Page(any_cells(seed))
            found = needs(page)
            for lot in lots:
                told = top_behind(web, {name: names.index(name) for name in lot}, page)
                self.assertEqual(told is None, not set(found) <= set(lot))

    def test_whatever_stood_ahead(self):
        for seed in range(150):
            rng = maker(seed)
            page = Page(sound_cells(seed, depth=1))
            web = a_web(seed, rows=8)
            parts = parts_of(web)
            stand = {name: rng.choice(parts) for name in rng.sample(["a", "b", "k"], 2)} if parts else {}
            told = top_behind(web, stand, page)
            self.check_led(told[:3], top(page)[:3])
            self.assertEqual(set(told[3]), set(stand) | set(top(page)[3]))
            self.assertEqual(told[0][:len(web)], web)
            again = top_behind(told[0], told[3], page)
            self.assertEqual(again[0], told[0])
            self.assertEqual(again[1:], told[1:])

    def check_led(self, told, other):
        """Both show and leave the same, row for row."""
        places = joined_webs(told[0], other[0])[1]
        self.assertEqual(told[1], [[places[part] for part in one] for one in other[1]])
        self.assertEqual(told[2], [{x: places[one[x]] for x in one} for one in other[2]])

    def test_of_other_pages_where_each_need_stands_as_ahead(self):
        many = 0
        for seed in range(300):
            page = Page(any_cells(seed))
            found = needs(page)
            web = [("given", at) for at in range(4)]
            stand = {name: at for at, name in enumerate(found)}
            told = top_behind(web, stand, page)
            again = top_behind(told[0], told[3], page)
            if found and all(told[3][name] == stand[name] for name in found):
                many += 1
                self.assertEqual(again, told)
        self.assertGreater(many, 10)

    def test_a_stand_of_the_web(self):
        page = Page([[("set", "y", "g", ["x"]), ("show", "y")]])
        web = [("given", 4), ("made", "g", (0,))]
        self.assertEqual(top_behind(web, {"z": 1, "x": 0}, page),
                         (web, [[1]], [{"y": 1}], {"x": 0, "y": 1, "z": 1}))
        self.assertIsNone(top_behind(web, {"z": 1}, page))


if __name__ == "__main__":
    unittest.main()
