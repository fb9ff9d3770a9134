"""[14.1] to [14.5]: woven hands, steady pages, names anew."""

import unittest
from itertools import product

from pagestrue.cellnames import reads_of, sets_of
from pagestrue.errors import BadOrder
from pagestrue.pages import Page, names_of, renamed
from pagestrue.steadiness import conflicts, is_straying, straying
from pagestrue.steadynames import other_naming, steady_names, steady_naming
from pagestrue.tops import first_miss, top
from pagestrue.weavecounts import woven_counts
from pagestrue.weaves import stands_behind, strays, woven
from tests.making import maker
from tests.plain import term_of
from tests.weavings import Weaving, never, orders_of, some_hands, weaving_cells


def step(name, does, *names):
    return ("set", name, does, list(names))


class WovenTest(unittest.TestCase):
    def test_plainly(self):
        met = [0, 0]
        for seed in range(200):
            cells = weaving_cells(seed)
            weaving = Weaving(cells)
            hands = some_hands(seed, 3, 1 + seed % 4, 8, weaving)
            rng = maker(seed)
            order = [hand for hand, line in enumerate(weaving.lines(hands)) for _ in line]
            rng.shuffle(order)
            order = order[:rng.randint(0, 8)]
            page = Page(cells)
            web, parts = woven(page, hands, order)
            places, terms, values = weaving.along(hands, order)
            self.assertEqual([term_of(web, part, never) for part in parts], terms)
            tops = top(page)[0]
            self.assertEqual(web[:len(tops)], tops)
            due = [term_of(tops, at, never) for at in range(len(tops))]
            for place, term in zip(places, terms):
                if cells[place[0]][place[1]][0] == "set" and term not in due:
                    due.append(term)
            self.assertEqual([term_of(web, at, never) for at in range(len(web))], due)
            self.assertEqual(strays(page, hands, order), weaving.stray(hands, order))
            met[weaving.stray(hands, order) is None] += 1
            stand = stands_behind(page, hands, order)
            self.assertEqual({name: term_of(web, stand[name], never) for name in stand}, values)
            self.assertEqual(list(stand), sorted(stand))
        self.assertGreater(min(met), 30)

    def test_orders(self):
        page = Page([[step("x", "f"), ("show", "x")], []])
        for hands, order in ([[[0], [0, 0]], [0, 1, 1, 0, 1, 1]], [[], []], [[[]], []], [[[1, 1], [0]], [1, 1]],
                             [[[1, 0]], [0]]):
            self.assertIsNone(strays(page, hands, order))
        for hands, order, index in ([[[0]], [0, 0, 0], 2], [[], [0], 0], [[[1]], [0], 0], [[[0], []], [0, 1], 1]):
            with self.assertRaises(BadOrder) as caught:
                woven(page, hands, order)
            self.assertEqual(caught.exception.index, index)
        self.assertEqual(woven(page, [[0]], []), ([("made", "f", ())], []))
        self.assertEqual(stands_behind(page, [[1], []], []), {"x": 0})


class SteadyTest(unittest.TestCase):
    def plain_conflicts(self, cells, weaving):
        places = sorted(weaving.own)
        told = []
        for name in sorted({name for cell in cells for one in cell for name in reads_of([one])}):
            leaving = [place for place in places if name in sets_of([cells[place[0]][place[1]]])]
            pairs = [(one, other) for one in leaving for other in leaving
                     if one < other and weaving.own[one] != weaving.own[other]]
            if pairs:
                told.append((name,) + min(pairs))
        return told

    def test_just_one_of_steady_and_straying(self):
        met = [0, 0]
        for seed in range(250):
            cells = weaving_cells(seed)
            weaving = Weaving(cells)
            page = Page(cells)
            told = conflicts(page)
            self.assertEqual(told, self.plain_conflicts(cells, weaving))
            found = straying(page)
            self.assertEqual(found is None, told == [])
            met[told == []] += 1
            if found is not None:
                hands, order = found
                self.assertEqual([len(hand) for hand in hands], [1, 1])
                self.assertEqual(weaving.stray(hands, order), len(order) - 1)
                self.assertIs(is_straying(page, found), True)
                self.assertIs(is_straying(page, [hands, order[:-1]]), False)
            self.assertEqual(self.can_two_stray(cells, weaving), found is not None)
        self.assertGreater(min(met), 50)

    def can_two_stray(self, cells, weaving):
        """Whether two hands with one cell each stray in some order, by all their orders."""
        for one, other in product(range(len(cells)), repeat=2):
            for order in orders_of([len(cells[one]), len(cells[other])]):
                if weaving.stray([[one], [other]], order) is not None:
                    return True
        return False

    def test_a_steady_page_never_strays(self):
        many = 0
        for seed in range(300):
            cells = weaving_cells(seed)
            weaving = Weaving(cells)
            if not conflicts(Page(cells)):
                many += 1
                hands = some_hands(seed, 3, 3, 7, weaving)
                for order in weaving.whole_orders(hands)[:150]:
                    self.assertIsNone(weaving.stray(hands, order))
        self.assertGreater(many, 50)

    def test_is_straying(self):
        cells = [[step("x", "f"), step("y", "g", "x"), ("show", "y")], [step("x", "h")], []]
        page = Page(cells)
        weaving = Weaving(cells)
        right = 0
        for hands in ([[0], [1]], [[0, 1], [1]], [[1], [2], [0]], [[0], [0]], [[0]], [], [[], [0, 1]]):
            for many in range(7):
                for order in product(range(len(hands)), repeat=many):
                    order = list(order)
                    counts = [order.count(hand) for hand in range(len(hands))]
                    is_order = all(count <= len(line) for count, line in zip(counts, weaving.lines(hands)))
                    is_right = is_order and order != [] and weaving.stray(hands, order) == len(order) - 1
                    self.assertIs(is_straying(page, (hands, order)), is_right)
                    right += is_right
        self.assertGreater(right, 2)
        for thing in (None, (), ([[0], [1]],), ([[0], [1]], [0, 1, 0], 0), ([[0], [3]], [0]), ([[0], [1]], [0, 2]),
                      ([[0], [1]], [0, True, 0]), ([[0], [True]], [0, 1, 0]), ("01", [0]), ([0, 1], [0, 1, 0])):
            self.assertIs(is_straying(page, thing), False)
        self.assertIs(is_straying(page, (((0,), (1,)), (0, 1, 0))), True)

    def test_one_cell_with_itself(self):
        page = Page([[step("x", "f"), step("x", "g", "x")]])
        self.assertEqual(conflicts(page), [("x", (0, 0), (0, 1))])
        hands, order = straying(page)
        self.assertEqual(hands, [[0], [0]])
        self.assertEqual(strays(page, hands, order), len(order) - 1)
        self.assertEqual((conflicts(Page([])), straying(Page([]))), ([], None))
        self.assertEqual(conflicts(Page([[step("x", "f"), step("x", "g")]])), [])


class NamesTest(unittest.TestCase):
    def test_steady_with_the_fewest_names(self):
        for seed in range(150):
            page = Page(weaving_cells(seed))
            told = steady_naming(page)
            self.assertIs(other_naming(page, told), True)
            self.assertEqual(conflicts(told), [])
            self.assertEqual(len(names_of(told)[0]), steady_names(page))

    def test_by_all_namings(self):
        """All ways to name what is left anew, each reader reading what was left there."""
        fewer = 0
        for seed in range(150):
            cells = weaving_cells(seed, cells=2, many=2)
            weaving = Weaving(cells)
            places = [place for place in sorted(weaving.own) if cells[place[0]][place[1]][0] != "show"]
            best = None
            for numbers in product(range(len(places)), repeat=len(places)):
                named = self.named(cells, weaving, dict(zip(places, numbers)))
                if named is not None and not conflicts(named):
                    many = len(set(numbers))
                    best = many if best is None else min(best, many)
            self.assertEqual(best if places else 0, steady_names(Page(cells)))
            fewer += bool(places) and best < len(names_of(Page(cells))[0])
        self.assertGreater(fewer, 0)

    def named(self, cells, weaving, numbers):
        """The page in which each statement leaves its number's name, None if somebody can't read then."""
        stands = {}
        told = []
        wants = {}
        values = {}
        for place in sorted(weaving.own):
            statement = cells[place[0]][place[1]]
            reads = statement[3] if statement[0] == "set" else list(statement[-1:])
            wants[place] = [values[name] for name in reads]
            if statement[0] != "show":
                values[statement[1]] = weaving.own[place]
        for place in sorted(weaving.own):
            statement = cells[place[0]][place[1]]
            names = []
            for want in wants[place]:
                found = [number for number in stands if stands[number] == want]
                if not found:
                    return None
                names.append("n" + str(found[0]))
            if statement[0] == "show":
                told.append((place[0], ("show", names[0])))
                continue
            name = "n" + str(numbers[place])
            stands[numbers[place]] = weaving.own[place]
            told.append((place[0], ("copy", name, names[0]) if statement[0] == "copy"
                         else ("set", name, statement[2], names)))
        return Page([[one for at, one in told if at == place] for place in range(len(cells))])

    def test_other_naming(self):
        page = Page([[step("x", "f"), step("y", "g", "x")], [("copy", "z", "y"), ("show", "z")]])
        self.assertIs(other_naming(page, page), True)
        self.assertIs(other_naming(page, renamed(page, {"x": "y", "y": "x", "z": "k"})), True)
        good = [[[step("a", "f"), step("a", "g", "a")], [("copy", "a", "a"), ("show", "a")]],
                [[step("a", "f"), step("b", "g", "a")], [("copy", "a", "b"), ("show", "b")]]]
        for cells in good:
            self.assertIs(other_naming(page, Page(cells)), True)
        bad = [[], page.cells()[:1], page.cells() + [[]], [page.cells()[0] + page.cells()[1]],
               [[step("a", "f"), step("b", "g", "a")], [("copy", "c", "a"), ("show", "c")]],
               [[step("a", "f"), step("b", "g", "a")], [("copy", "c", "b"), ("show", "a")]],
               [[step("a", "h"), step("b", "g", "a")], [("copy", "c", "b"), ("show", "c")]],
               [[step("a", "f"), step("b", "g", "a", "a")], [("copy", "c", "b"), ("show", "c")]],
               [[step("a", "f"), step("b", "g", "c")], [("copy", "c", "b"), ("show", "c")]],
               [[step("a", "f"), step("b", "g", "a")], [("show", "b"), ("copy", "c", "b")]],
               [[step("a", "f"), step("b", "g", "a")], [("if", "t", [], [], []), ("show", "b")]],
               [[step("a", "f"), step("b", "g", "a")], [("show", "b")]]]
        for cells in bad:
            self.assertIs(other_naming(page, Page(cells)), False)

    def test_other_naming_by_many_names(self):
        met = [0, 0]
        for seed in range(100):
            cells = weaving_cells(seed)
            weaving = Weaving(cells)
            rng = maker(seed)
            for _ in range(6):
                def name():
                    return rng.choice("abxy")
                other = []
                for cell in cells:
                    other.append([])
                    for one in cell:
                        names = [name() if rng.random() < 0.2 else old for old in
                                 ([one[1], *one[3]] if one[0] == "set" else one[1:])]
                        other[-1].append(("set", names[0], one[2], names[1:]) if one[0] == "set"
                                         else (one[0], *names))
                is_right = first_miss(Page(other)) is None and Weaving(other).own == weaving.own
                self.assertIs(other_naming(Page(cells), Page(other)), is_right)
                met[is_right] += 1
        self.assertGreater(min(met), 50)

    def test_what_nobody_reads_shares_one_name(self):
        page = Page([[step("x", "f"), step("y", "g"), step("z", "h")], [("show", "y")]])
        self.assertEqual(steady_names(page), 2)
        self.assertEqual(steady_names(Page([])), 0)
        self.assertEqual(steady_naming(Page([[], []])), Page([[], []]))
        self.assertEqual(woven_counts(steady_naming(page), [[0, 1], [1, 0]])[1], 0)


if __name__ == "__main__":
    unittest.main()
