"""[9.1], [9.2], [9.7]: runs that stop amid their steps."""

import unittest

from pagestrue.ownerlots import stop_lot
from pagestrue.pages import Page
from pagestrue.rowsofruns import played
from pagestrue.runs import is_stand, ran
from pagestrue.stops import can_stop, standing_lots, went, went_along
from pagestrue.tops import top
from pagestrue.twobehind import untrue_row
from pagestrue.webs import is_web
from tests.making import a_cell, a_web, maker, parts_of, sound_cells
from tests.plain import over_worlds, plain_go, rows_up_to, term_of


def some_stand(seed, web):
    rng = maker(seed)
    parts = parts_of(web)
    return {name: rng.choice(parts) for name in "abc" if parts and rng.random() < 0.5}


class WentTest(unittest.TestCase):
    def test_up_to_the_first_that_misses(self):
        cell = [("show", "a"), ("set", "x", "f", ["a"]), ("copy", "y", "x"), ("show", "x"),
                ("set", "x", "f", ["b"]), ("copy", "a", "x")]
        web = [("given", 0)]
        self.assertEqual(went(web, {"a": 0}, cell), (
            4, web + [("made", "f", (0,))], {"a": 0, "x": 1, "y": 1}, [0, 1], {"x": 1, "y": 1}))
        self.assertEqual(went(web, {}, cell), (0, web, {}, [], {}))
        self.assertEqual(went([], {}, []), (0, [], {}, [], {}))

    def test_an_if_as_a_whole(self):
        inner = [("set", "x", "f", []), ("if", "s", ["x"], [("copy", "x", "b")], [("copy", "x", "x")])]
        cell = [("set", "y", "g", []), ("if", "t", ["y"], inner, [("copy", "x", "y")]), ("show", "y")]
        web = [("given", 0)]
        self.assertEqual(went(web, {"a": 0}, cell),
                         (1, web + [("made", "g", ())], {"a": 0, "y": 1}, [], {"y": 1}))
        self.assertEqual(went(web, {"b": 0}, cell)[0], 3)

    def test_all_done_is_what_ran_tells(self):
        stopped = 0
        for seed in range(250):
            web = a_web(seed, rows=6, most_asked=2)
            stand = some_stand(seed, web)
            cell = a_cell(seed, many=4)
            many, behind_web, behind, shown, left = went(web, stand, cell)
            self.assertTrue(is_web(behind_web) and is_stand(behind_web, behind))
            self.assertEqual((list(behind), list(left)), (sorted(behind), sorted(left)))
            done = (behind_web, behind, shown, left)
            self.assertEqual(ran(web, stand, cell), done if many == len(cell) else None)
            self.assertEqual(ran(web, stand, cell[:many]), done)
            if many < len(cell):
                stopped += 1
                self.assertIsNone(ran(web, stand, cell[:many + 1]))

            def act(ask):
                values = {name: term_of(web, stand[name], ask) for name in stand}
                told = plain_go(cell, values, ask)
                self.assertEqual(told[0], many)
                self.assertEqual(told[2], [term_of(behind_web, part, ask) for part in shown])
                self.assertEqual(told[3], {x: term_of(behind_web, left[x], ask) for x in left})

            over_worlds(act)
        self.assertGreater(stopped, 50)


class AlongTest(unittest.TestCase):
    def test_row_by_row(self):
        for seed in range(150):
            rng = maker(seed)
            cells = sound_cells(seed, depth=1, many=3)
            page = Page(cells)
            runs = [rng.randrange(3) for _ in range(rng.randint(0, 7))]
            web, stand, told = top(page)[0], {}, []
            for place in runs:
                many, web, behind, shown, left = went(web, stand, cells[place])
                self.assertTrue(set(stand) <= set(behind))
                stand = behind
                told.append((many, shown, left))
            self.assertEqual(went_along(page, runs), (web, told))
            for at, place in enumerate(runs):
                for before in range(at):
                    if runs[before] == place:
                        self.assertLessEqual(told[before][0], told[at][0])
            if all(told[at][0] == len(cells[place]) for at, place in enumerate(runs)):
                self.assertNotIn(None, played(page, runs)[1])


class StandingTest(unittest.TestCase):
    def plain(self, cells, longest):
        """What stands behind all rows of stopping runs up to this length, and the stops."""
        lots, stops = [[]], []
        for row in [[]] + list(rows_up_to(cells, longest)):
            values = {}
            for place in row:
                many, values, _, _ = plain_go(cells[place], values, lambda test, terms: True)
                if many < len(cells[place]) and (place, many) not in stops:
                    stops.append((place, many))
            if sorted(values) not in lots:
                lots.append(sorted(values))
        return sorted(lots), sorted(stops)

    def test_by_all_rows(self):
        most = 0
        for seed in range(150):
            cells = sound_cells(seed, depth=1, many=3, values=4)
            page = Page(cells)
            self.assertEqual((standing_lots(page), can_stop(page)), self.plain(cells, 4))
            most = max(most, len(can_stop(page)))
        self.assertGreater(most, 2)

    def test_stops_are_told_by_cells(self):
        page = Page([[("set", "a", "f", [])], [("set", "b", "f", [])], [("show", "a"), ("show", "b")],
                     [("show", "b")]])
        self.assertEqual(can_stop(page), [(2, 0), (2, 1), (3, 0)])
        self.assertEqual(standing_lots(page), [[], ["a"], ["a", "b"], ["b"]])

    def test_no_cells(self):
        self.assertEqual(standing_lots(Page([])), [[]])
        self.assertEqual(can_stop(Page([])), [])
        self.assertEqual(can_stop(Page([[]])), [])

    def test_where_nothing_is_done_before_a_stop(self):
        both = [0, 0]
        for seed in range(300):
            page = Page(sound_cells(seed, depth=1, many=2, steps=1, tests=1, calm=seed % 3 * 0.4))
            if all(many == 0 for _, many in can_stop(page)):
                holds_up = stop_lot(page)[0] == "closed"
                both[holds_up] += 1
                self.assertEqual(holds_up, untrue_row(page) is None)
        self.assertGreater(min(both), 20)


if __name__ == "__main__":
    unittest.main()
