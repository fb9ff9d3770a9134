"""[10.1] to [10.5]: what can come, rings, closed lots, rounds."""

import unittest
from itertools import product

from pagestrue.allstands import all_stands, is_closed
from pagestrue.comings import can_run, can_stand, is_ring, makes, ring_of
from pagestrue.pages import Page, names_of
from pagestrue.rounds import comes_round
from pagestrue.rowsofruns import played, stand_behind
from tests.making import any_cells, maker, reading_cells
from tests.plain import plain_row, plain_run, rows_up_to, term_of


def never(test, terms):
    raise AssertionError("no tests here")


def step(name, does, *names):
    return ("set", name, does, list(names))


def some_cells(pages, cells=3, many=2):
    """Cells that read whatever names, or hardly any."""
    told = []
    for seed in range(pages):
        if seed % 2:
            told.append(reading_cells(seed, cells, many))
        else:
            told.append(any_cells(seed, cells=cells, many=many, depth=0, calm=(0.2, 0.5, 0.9)[seed % 3]))
    return told


def has_within(term, inner):
    return term == inner or any(has_within(one, inner) for one in term[1] if isinstance(one, tuple))


def plain_makes(cell):
    """Run on a part of its own under each name: of which names what is left is made."""
    names = sorted({name for one in cell for name in ([one[1]] + list(one[3]) if one[0] == "set" else one[1:])})
    values = {name: ("of " + name, ()) for name in names}
    left = plain_run(cell, values, never)[2]
    return sorted((y, x, left[x] != values[y]) for x in left for y in names if has_within(left[x], values[y]))


def plain_can_run(cells):
    """The cells that do not miss behind some row, and what these leave: run again and again."""
    runs = list(range(len(cells))) * (len(cells) + 1)
    told, values = plain_row(cells, runs, {}, never)
    return sorted({place for place, run in zip(runs, told) if run is not None}), sorted(values)


def plain_links(cells):
    return [(place,) + made for place in plain_can_run(cells)[0] for made in plain_makes(cells[place])]


def plain_has_ring(cells):
    """Whether some step leads, by however many links, back to where it begins."""
    links = plain_links(cells)
    reach = {(link[1], link[2]) for link in links}
    while True:
        more = reach | {(a, d) for a, b in reach for c, d in reach if b == c}
        if more == reach:
            break
        reach = more
    return any(link[3] and (link[1] == link[2] or (link[2], link[1]) in reach) for link in links)


def plain_stands(cells, most):
    """All stands that come, as dicts of terms, with their least rows; None if there are too many."""
    known = {(): []}
    rows = [[]]
    while rows:
        longer = []
        for row in rows:
            for place in range(len(cells)):
                told, values = plain_row(cells, row + [place], {}, never)
                key = tuple(sorted(values.items()))
                if key not in known:
                    known[key] = row + [place]
                    longer.append(row + [place])
        rows = longer
        if len(known) > most or rows and len(rows[0]) > 8:
            return None
    return known


class RunTest(unittest.TestCase):
    def test_plainly(self):
        never_run = 0
        for cells in some_cells(250, cells=4):
            page = Page(cells)
            places, names = plain_can_run(cells)
            self.assertEqual(can_run(page), places)
            self.assertEqual(can_stand(page), names)
            never_run += len(places) < len(cells)
        self.assertGreater(never_run, 50)

    def test_edges(self):
        self.assertEqual((can_run(Page([])), can_stand(Page([]))), ([], []))
        page = Page([[step("x", "f", "y")], [step("y", "f", "x")], [("show", "z")], []])
        self.assertEqual((can_run(page), can_stand(page)), ([3], []))


class MakesTest(unittest.TestCase):
    def test_plainly(self):
        for cells in some_cells(200, cells=2, many=5):
            for place, cell in enumerate(cells):
                self.assertEqual(makes(Page(cells), place), plain_makes(cell))

    def test_edges(self):
        page = Page([[("copy", "y", "x"), ("copy", "z", "y"), step("y", "f", "y", "z"), ("show", "w")],
                     [step("x", "f", "x"), step("x", "g")], []])
        self.assertEqual(makes(page, 0), [("x", "y", True), ("x", "z", False)])
        self.assertEqual(makes(page, 1), [])
        self.assertEqual(makes(page, 2), [])
        self.assertEqual(can_run(page), [2])


class RingTest(unittest.TestCase):
    def test_just_one_of_ring_and_all_stands(self):
        rings, lots = 0, 0
        for cells in some_cells(250, cells=3) + some_cells(100, cells=4, many=1):
            page = Page(cells)
            ring = ring_of(page)
            self.assertEqual(ring is not None, plain_has_ring(cells))
            told = all_stands(page)
            self.assertEqual(told is None, ring is not None)
            if ring is not None:
                rings += 1
                self.check_ring(cells, ring)
                self.check_grows(page, ring)
                continue
            known = plain_stands(cells, 60)
            if known is not None:
                lots += 1
                self.check_stands(told, known)
        self.assertGreater(rings, 50)
        self.assertGreater(lots, 100)

    def check_ring(self, cells, ring):
        self.assertTrue(is_ring(Page(cells), ring))
        links = plain_links(cells)
        self.assertTrue(all(link in links for link in ring))
        self.assertEqual([link[2] for link in ring], [link[1] for link in ring[1:] + ring[:1]])
        self.assertTrue(any(link[3] for link in ring))

    def check_grows(self, page, ring):
        """Along a ring each turn makes a greater part."""
        runs = list(can_run(page)) * 4
        again = [link[0] for link in ring]
        ends = []
        for turns in range(4):
            web, stand = stand_behind(page, runs + again * turns)
            term = term_of(web, stand[ring[-1][2]], never)
            ends.append(len(str(term)))
        self.assertEqual(ends, sorted(set(ends)))

    def check_stands(self, told, known):
        web, stands = told
        mine = []
        for runs, stand in stands:
            key = tuple(sorted((name, term_of(web, stand[name], never)) for name in stand))
            self.assertEqual(known[key], runs)
            self.assertEqual(list(stand), sorted(stand))
            mine.append(key)
        self.assertEqual(len(mine), len(known))
        self.assertEqual([runs for runs, _ in stands], sorted([runs for runs, _ in stands],
                                                              key=lambda row: (len(row), row)))

    def test_the_told_web(self):
        """[] at first; on each told stand, in order, the cells are run, all in one web."""
        for cells in some_cells(120, cells=3):
            told = all_stands(Page(cells))
            if told is None:
                continue
            rows = []
            for runs, _ in told[1]:
                for place in range(len(cells)):
                    web, _ = played(Page(cells), runs + [place])
                    for row in web:
                        term = term_of([*web], web.index(row), never)
                        if term not in rows and played(Page(cells), runs)[0] != web:
                            rows.append(term)
            self.assertEqual([term_of(told[0], at, never) for at in range(len(told[0]))], rows)

    def test_is_ring(self):
        page = Page([[step("x", "f")], [("copy", "y", "x")], [step("x", "g", "y")], [step("k", "f", "k")],
                     [("copy", "z", "z"), step("z", "f")]])
        one, two = (1, "x", "y", False), (2, "y", "x", True)
        for thing in ([one, two], [two, one], (list(one), list(two)), [two, one, two, one]):
            self.assertIs(is_ring(page, thing), True)
        for thing in ([], [one], [two], [one, one], [one, (2, "y", "x", False)], [(3, "k", "k", True)],
                      [(1, "x", "y", 0), (2, "y", "x", 1)], [(True, "x", "y", False), two], [one, two, None],
                      [(1.0, "x", "y", False), two], None, "ring", [one, two, one], [(4, "z", "z", True)]):
            self.assertIs(is_ring(page, thing), False)

    def test_long_rings(self):
        """Rings through many names, beside links that lead nowhere."""
        names = ["a", "b", "c", "d", "e", "g"]
        for many in range(1, 7):
            for seed in range(10):
                rng = maker(seed)
                ring = rng.sample(names, many)
                cells = [[step(name, "f") for name in names]]
                for source, name in zip(ring[-1:] + ring[:-1], ring):
                    cells.append([("copy", name, source)])
                cells[-1] = [step(ring[-1], "h", ring[-2 % many] if many > 1 else ring[0])]
                cells += [[step(name, "g", rng.choice(names))] for name in names if name not in ring]
                rng.shuffle(cells)
                page = Page(cells)
                found = ring_of(page)
                self.check_ring(cells, found)
                self.assertIsNone(all_stands(page))
                without = [cell for cell in cells if cell[0][1] not in ring or len(cell) > 1]
                self.assertEqual(ring_of(Page(without)) is not None, plain_has_ring(without))
                again = [at for name in ring for at, cell in enumerate(cells) if len(cell) == 1 and cell[0][1] == name]
                told = comes_round(page, [at for at, cell in enumerate(cells) if len(cell) > 1], again)
                self.assertEqual(told[0], "grows")

    def test_a_turn_that_makes_a_long_ring(self):
        """Each name is made of the one ahead of it in the list, all of them at one turn."""
        cells = [[step(name, "f") for name in "abcde"],
                 [("copy", "k", "e"), step("e", "g", "d"), ("copy", "d", "c"), ("copy", "c", "b"),
                  ("copy", "b", "a"), ("copy", "a", "k")]]
        word, names = comes_round(Page(cells), [0], [1])
        self.assertEqual(word, "grows")
        self.assertIn(names, [list("abcdeabcde")[at:at + 5] for at in range(5)])

    def test_rings_of_copies_alone_are_none(self):
        page = Page([[step("x", "f"), step("y", "g")], [("copy", "x", "y")], [("copy", "y", "x")]])
        self.assertIsNone(ring_of(page))
        self.assertIs(is_ring(page, [(1, "y", "x", False), (2, "x", "y", False)]), False)
        self.assertEqual(len(all_stands(page)[1]), 4)


class ClosedTest(unittest.TestCase):
    def test_all_stands_are_closed_and_least(self):
        many = 0
        for cells in some_cells(150, cells=3):
            page = Page(cells)
            told = all_stands(page)
            if told is None or len(told[1]) > 40:
                continue
            many += 1
            web, stands = told[0], [stand for _, stand in told[1]]
            self.assertIs(is_closed(page, web, stands), True)
            self.assertIs(is_closed(page, web, stands[::-1]), True)
            self.assertIs(is_closed(page, web + [("given", 0)], stands), True)
            self.assertIs(is_closed(page, web, stands + stands[:1]), False)
            for at in range(len(stands)):
                self.assertIs(is_closed(page, web, stands[:at] + stands[at + 1:]), False)
            if web:
                self.assertIs(is_closed(page, web[:-1], stands), False)
        self.assertGreater(many, 80)

    def test_each_closed_list_has_them_all(self):
        """Of all lists of stands of small pages on a small web."""
        web = [("made", "f", ()), ("made", "g", ())]
        stands = [dict(pairs) for pairs in ([], [("a", 0)], [("a", 1)], [("b", 0)], [("a", 0), ("b", 0)])]
        closed = 0
        for cells in ([[step("a", "f")]], [[("copy", "a", "b")]], [[step("a", "f")], [("copy", "b", "a")]],
                      [[step("a", "g", "b")]], [[]], [], [[step("b", "f")]]):
            page = Page(cells)
            come = {tuple(sorted((name, term_of(all_stands(page)[0], part, never)) for name, part in one.items()))
                    for _, one in all_stands(page)[1]}
            for bits in product([False, True], repeat=len(stands)):
                lot = [stand for stand, is_in in zip(stands, bits) if is_in]
                mine = {tuple(sorted((name, term_of(web, part, never)) for name, part in one.items()))
                        for one in lot}
                if is_closed(page, web, lot):
                    closed += 1
                    self.assertLessEqual(come, mine)
        self.assertGreater(closed, 20)

    def test_wrong_things(self):
        page = Page([[step("x", "f")]])
        web = [("made", "f", ()), ("asked", "t", ())]
        self.assertIs(is_closed(page, web, ({"x": 0}, {})), True)
        for thing in (None, {}, [], [{"x": 0}], [{}], [{}, {"x": 1}], [{}, {"x": 0}, {"x": 0}], [{}, {}],
                      [{}, {"x": 0}, None], [{}, {"x": 0}, {"y": True}], [{}, {"x": 0.0}]):
            self.assertIs(is_closed(page, web, thing), False)
        self.assertIs(is_closed(Page([]), [], [{}]), True)
        self.assertEqual(all_stands(Page([])), ([], [([], {})]))


class RoundTest(unittest.TestCase):
    def plain_turns(self, cells, ahead, again, turns):
        """What stands, as terms, behind each number of turns."""
        told = [plain_row(cells, ahead, {}, never)[1]]
        for _ in range(turns):
            told.append(plain_row(cells, again, told[-1], never)[1])
        return told

    def test_plainly(self):
        grown, gone = 0, 0
        for seed, cells in enumerate(some_cells(300, cells=3) + some_cells(150, cells=4, many=1)):
            rng = maker(seed)
            page = Page(cells)
            for _ in range(12):
                ahead = list(range(len(cells)))[:seed % 3] + [rng.randrange(len(cells)) for _ in range(rng.randrange(3))]
                again = [rng.randrange(len(cells)) for _ in range(rng.randrange(4))]
                told = comes_round(page, ahead, again)
                if told[0] == "grows":
                    grown += 1
                    self.check_grows(page, cells, ahead, again, told[1])
                    continue
                _, tail, period = told
                gone += tail + period > 1
                stands = self.plain_turns(cells, ahead, again, tail + period)
                self.assertEqual(stands[tail], stands[tail + period])
                self.assertEqual(len({str(sorted(one.items())) for one in stands[:-1]}), tail + period)
                self.assertLessEqual(tail, 2 * len(names_of(page)[0]))
                self.assertIn(period, (1, 2, 3))
        self.assertGreater(grown, 60)
        self.assertGreater(gone, 100)

    def check_grows(self, page, cells, ahead, again, names):
        """Each turn, from as many on as there are names, makes each name of the one ahead in the list."""
        self.assertTrue(names)
        self.assertEqual(len(set(names)), len(names))
        values = self.plain_turns(cells, ahead, again, len(names_of(page)[0]))[-1]
        marks = {name: ("of " + name, ()) for name in values}
        behind = plain_row(cells, again, marks, never)[1]
        by_step = 0
        for source, name in zip(names[-1:] + names[:-1], names):
            self.assertTrue(has_within(behind[name], marks[source]))
            by_step += behind[name] != marks[source]
        self.assertGreater(by_step, 0)

    def test_what_must_come_round(self):
        for cells in some_cells(200, cells=3):
            page = Page(cells)
            reading = any(one[0] == "set" and one[3] for cell in cells for one in cell)
            if not reading or all_stands(page) is not None:
                for again in list(rows_up_to(cells, 2))[:8]:
                    self.assertEqual(comes_round(page, [0, 1], again)[0], "round")

    def test_rings_of_copies(self):
        page = Page([[step("a", "f"), step("b", "g"), step("c", "h"), step("d", "f"), step("e", "g", "d")],
                     [("copy", "k", "a"), ("copy", "a", "b"), ("copy", "b", "c"), ("copy", "c", "k")],
                     [("copy", "k", "d"), ("copy", "d", "e"), ("copy", "e", "k")], [("copy", "c", "a")]])
        self.assertEqual(comes_round(page, [0], [1]), ("round", 1, 3))
        self.assertEqual(comes_round(page, [0], [1, 2]), ("round", 1, 6))
        self.assertEqual(comes_round(page, [0, 2], [2]), ("round", 0, 2))
        self.assertEqual(comes_round(page, [0], [3]), ("round", 1, 1))
        self.assertEqual(comes_round(page, [], [1, 2]), ("round", 0, 1))
        self.assertEqual(comes_round(page, [], [0]), ("round", 1, 1))
        self.assertEqual(comes_round(page, [], []), ("round", 0, 1))
        self.assertEqual(comes_round(Page([]), [], []), ("round", 0, 1))

    def test_what_runs_in_the_last_turn_alone(self):
        """One name more stands behind each turn; only behind as many turns as names all of it runs."""
        page = Page([[step("a", "f")], [("copy", "b", "a")], [("copy", "c", "b")], [("copy", "d", "c")],
                     [("copy", "e", "d")], [step("a", "f", "e")]])
        self.assertEqual(comes_round(page, [0], [5, 4, 3, 2, 1])[0], "grows")
        self.assertEqual(comes_round(page, [0], [4, 3, 2, 1]), ("round", 4, 1))
        self.assertEqual(comes_round(page, [0], [4, 3, 2]), ("round", 0, 1))

    def test_what_misses_in_the_first_turns(self):
        page = Page([[step("a", "f")], [("copy", "b", "a")], [("copy", "c", "b")], [step("a", "g", "c")]])
        self.assertEqual(comes_round(page, [0], [3, 2, 1])[0], "grows")
        self.assertEqual(comes_round(page, [], [3, 2, 1]), ("round", 0, 1))
        self.assertEqual(comes_round(page, [0], [2, 1]), ("round", 2, 1))


if __name__ == "__main__":
    unittest.main()
