"""[17.4], [17.5]: closed lots of owners of wide pages, names looked up, sure names."""

import unittest
from itertools import combinations, product

from pagestrue.cellmatters import mattering
from pagestrue.errors import BadPlace, Unsound
from pagestrue.ownerlots import is_whole_lot, whole_lot
from pagestrue.pages import Page
from pagestrue.refusals import BadWide
from pagestrue.widelots import is_wide_lot, looked_up, sure_names, wide_lot
from pagestrue.widepages import WidePage
from pagestrue.wideruns import wide_at, wide_top
from tests.making import Strange, sound_cells, strange_things
from tests.widely import first_row, first_untrue, owners_behind, sound_wide, wide_row, wide_run


def step(name, does, *names):
    return ("set", name, does, list(names))


LATE = [[("tell", "f", [], [step("q", "h")], "q"), step("b", "s")], [("call", "b", "f", [])],
        [("tell", "f", [], [], "b")]]


def stand_of(cells, owners):
    """What the owners stand for: what these cells leave in the run from the top."""
    top = wide_row(cells, range(len(cells)))[0]
    return {name: top[place][1][name] for name, place in owners.items()}


def plain_closed(cells, lot):
    """Whether a list of dicts is a closed lot of owners, word by word."""
    top = wide_row(cells, range(len(cells)))[0]
    if {} not in lot or any(name not in top[place][1] for owners in lot for name, place in owners.items()):
        return False
    for owners in lot:
        for place, cell in enumerate(cells):
            run = wide_run(cell, stand_of(cells, owners))
            if run is not None:
                if run[1:] != top[place] or {**owners, **{name: place for name in run[2]}} not in lot:
                    return False
    return True


def pairs(owners):
    return sorted(owners.items())


class WideLotTest(unittest.TestCase):
    def test_all_rows_of_runs(self):
        met = {}
        for seed in range(500):
            cells = sound_wide(seed, cells=2 + seed % 2, many=1 + seed % 3)
            longest = 5 if len(cells) == 2 else 4
            page = WidePage(cells)
            word, told = wide_lot(page)
            row = first_row(cells, longest)
            if word == "row":
                self.assertEqual(row, told if len(told) <= longest else None)
                place, what = first_untrue(cells, told)
                self.assertEqual(place, len(told) - 1)
                self.assertEqual(wide_at(page, told), (place, what))
            else:
                self.assertIsNone(row)
                self.check_lot(cells, page, told, longest)
            met[word] = met.get(word, 0) + 1
        self.assertGreater(min(met.values()), 50)

    def check_lot(self, cells, page, lot, longest):
        self.assertEqual(lot, sorted(lot, key=pairs))
        self.assertTrue(all(list(owners) == sorted(owners) for owners in lot))
        self.assertTrue(plain_closed(cells, lot))
        self.assertIs(is_wide_lot(page, lot), True)
        came = [owners_behind(cells, row) for many in range(longest + 1)
                for row in product(range(len(cells)), repeat=many)]
        self.assertTrue(all(owners in lot for owners in came))
        if len(cells) == 2:
            self.assertTrue(all(owners in came for owners in lot))

    def test_all_lists_of_owners(self):
        """is_wide_lot by the test's own reading, of all lists of owners of small pages."""
        met = {True: 0, False: 0}
        for seed in range(140):
            cells = sound_wide(seed, cells=2, many=2, values="a")
            page = WidePage(cells)
            lefts = [left for _, left in wide_row(cells, range(2))[0]]
            names = sorted(set(lefts[0]) | set(lefts[1]))
            if len(names) > 2:
                continue
            every = [{name: place for name, place in zip(names, places) if place is not None}
                     for places in product((None, 0, 1), repeat=len(names))]
            every = [owners for owners in every if all(name in lefts[place] for name, place in owners.items())]
            for many in range(len(every) + 1):
                for lot in combinations(every, many):
                    right = plain_closed(cells, list(lot))
                    self.assertIs(is_wide_lot(page, lot), right)
                    met[right] += 1
        self.assertGreater(min(met.values()), 100)

    def test_the_example_needs_three_behind(self):
        """Behind the top each run of one cell and of two is true, that of three is not."""
        stand = wide_row(LATE, range(3))[1]
        for many in (1, 2):
            for row in product(range(3), repeat=many):
                self.assertIsNone(first_untrue(LATE, row, stand))
        self.assertEqual(first_untrue(LATE, [0, 2, 1], stand), (2, ("left", "b")))
        self.assertEqual(wide_lot(WidePage(LATE)), ("row", [0, 2, 1]))

    def test_edges(self):
        empty = WidePage([])
        self.assertEqual(wide_lot(empty), ("closed", [{}]))
        self.assertIs(is_wide_lot(empty, [{}, {}]), True)
        for thing in ([], {}, None, [{"a": 0}], [{}, {"a": 0}], [[]], "", [{}, None]):
            self.assertIs(is_wide_lot(empty, thing), False)
        page = WidePage(LATE[:2])
        lot = wide_lot(page)[1]
        self.assertEqual(lot, [{}, {"b": 0, "f": 0}, {"b": 1, "f": 0}])
        self.assertIs(is_wide_lot(page, lot + lot[::-1]), True)
        self.assertIs(is_wide_lot(page, lot + [{"f": 0}]), True)
        self.assertIs(is_wide_lot(page, lot + [{"b": 0}]), True)
        for thing in (lot[1:], lot[:2], lot + [{"f": 1}], lot + [{"b": True}], lot + [{"b": 2}], lot + [{"z": 0}],
                      lot + [[("b", 0)]], lot + [None], [{}, {"b": 1, "f": 0}], lot + [{"b": Strange()}]):
            self.assertIs(is_wide_lot(page, thing), False)
        # Lots with more may be closed; an untrue one that no row leads to is none.
        other = WidePage([[step("a", "f"), step("a", "g", "a")], [step("b", "h")], [step("c", "k", "b")],
                          [step("b", "h")]])
        self.assertEqual(wide_lot(other)[0], "closed")
        for thing in strange_things():
            self.assertIs(type(is_wide_lot(page, thing)), bool)

    def test_functions_alike_by_text(self):
        """Functions are held against each other by their texts, rows by their rows."""
        tell = ("tell", "f", [], [step("q", "h")], "q")
        same = [[tell], [tell, step("a", "k")], [("call", "b", "f", [])]]
        self.assertEqual(wide_lot(WidePage(same))[0], "closed")
        self.assertEqual(sure_names(WidePage(same)), ["a", "b", "f"])
        other = ("tell", "f", [], [step("r", "h")], "r")
        unlike = [[tell], [other, step("a", "k")], [("call", "b", "f", [])]]
        self.assertEqual(sure_names(WidePage(unlike)), ["a", "b"])
        # What is called comes to one row all the same: so it is closed otherwise.
        self.assertEqual(wide_lot(WidePage(unlike))[0], "closed")
        self.assertEqual(looked_up(WidePage(unlike), 2), ["f"])


class LookedUpTest(unittest.TestCase):
    def test_against_plain_runs(self):
        several = 0
        for seed in range(500):
            cells = sound_wide(seed, cells=3, many=3)
            page = WidePage(cells)
            tops = wide_row(cells, range(3))[0]
            for place, cell in enumerate(cells):
                looked = set()
                wide_run(cell, wide_row(cells, range(place))[1], looked)
                self.assertEqual(looked_up(page, place), sorted(looked))
                several += len(looked) > 1
            sure = sorted(name for name in {name for _, left in tops for name in left}
                          if len({left[name] for _, left in tops if name in left}) == 1)
            self.assertEqual(sure_names(page), sure)
            if all(set(looked_up(page, place)) <= set(sure) for place in range(3)):
                self.assertEqual(wide_lot(page)[0], "closed")
        self.assertGreater(several, 25)

    def test_edges(self):
        cells = [[step("a", "f"), ("tell", "g", ["p"], [("call", "q", "h", ["p", "b"])], "q")],
                 [step("b", "f"), ("tell", "h", ["p", "r"], [step("c", "k", "p", "a")], "c"),
                  ("call", "x", "g", ["b"])],
                 [step("a", "k"), ("call", "x", "g", ["a"]), ("copy", "g", "h"), ("copy", "g", "g"), ("show", "x")], []]
        page = WidePage(cells)
        self.assertEqual([looked_up(page, place) for place in range(4)], [[], ["a", "g"], ["b", "g", "h"], []])
        for place in (None, 4, -1, True, "0", 0.0, Strange()):
            with self.assertRaises(BadPlace) as caught:
                looked_up(page, place)
            self.assertIs(caught.exception.place, place)

    def test_pages_of_seven(self):
        """Without tells and calls: closed exactly if all names that matter are sure."""
        met = {True: 0, False: 0}
        for seed in range(400):
            cells = sound_cells(seed, cells=3 + seed % 2, values=3, steps=1 + seed % 2, calm=(0.2, 0.6, 0.9)[seed % 3])
            wide, page = WidePage(cells), Page(cells)
            self.assertEqual(wide_lot(wide), whole_lot(page))
            closed = wide_lot(wide)[0] == "closed"
            sure = sure_names(wide)
            self.assertEqual(closed, all(name in sure for cell in cells for name in mattering(cell)))
            met[closed] += 1
            if closed:
                lot = wide_lot(wide)[1]
                for at in range(len(lot)):
                    fewer = lot[:at] + lot[at + 1:]
                    self.assertEqual(is_wide_lot(wide, fewer), is_whole_lot(page, fewer))
        self.assertGreater(min(met.values()), 40)

    def test_wrong_things(self):
        unsound = WidePage([[step("a", "f")], [("call", "x", "a", [])]])
        calls = [(wide_top, ()), (wide_lot, ()), (is_wide_lot, (None,)), (looked_up, (None,)), (sure_names, ())]
        for function, more in calls:
            for wide in (None, [], Page([]), Strange()):
                with self.assertRaises(BadWide) as caught:
                    function(wide, *more)
                self.assertIs(caught.exception.wide, wide)
            with self.assertRaises(Unsound) as caught:
                function(unsound, *more)
            self.assertEqual(caught.exception.index, 1)

    def test_the_same_however_it_is_asked(self):
        for seed in range(30):
            cells = sound_wide(seed, cells=3, many=3)
            self.assertEqual(wide_lot(WidePage(cells)), wide_lot(WidePage(tuple(tuple(cell) for cell in cells))))


if __name__ == "__main__":
    unittest.main()
