"""[16.5] to [16.7]: good orders of a page's cells, who is always ahead, cells that are moved."""

import unittest
from itertools import permutations

from pagestrue.cellorders import breaks_at, good_order, orders_count
from pagestrue.errors import BadOrder, BadPlace
from pagestrue.ordermoves import always_ahead, fewest_moves, move_lets, turned_order
from pagestrue.pages import Page
from pagestrue.refusals import BadK, BadPair
from tests.making import Strange, maker, sound_cells
from tests.plain import do_all, is_missed


def step(name, does, *names):
    return ("set", name, does, list(names))


def never(test, terms):
    raise AssertionError("no tests here")


def statement_terms(cell, values):
    """The term that each statement makes, copies or shows; the values are changed."""
    told = []
    for statement in cell:
        shown = []
        do_all([statement], values, shown, never)
        told.append(shown[0] if shown else values[statement[1]])
    return told


def plain_break(cells, order):
    """Where an order breaks, by doing all its statements on terms."""
    values = {}
    tops = [statement_terms(cell, values) for cell in cells]
    values = {}
    for at, place in enumerate(order):
        if is_missed(cells[place], values):
            return (at, "misses")
        if statement_terms(cells[place], values) != tops[place]:
            return (at, "otherwise")
    return None


def ordered_cells(seed, cells=4):
    """The cells of a sound page of which some can be exchanged."""
    kinds = ({"values": 3, "calm": 0.7, "steps": 1}, {"values": 4, "calm": 0.3}, {"values": 2, "calm": 0.8, "steps": 1},
             {"values": 6, "calm": 0.1, "steps": 1})[seed % 4]
    return sound_cells(seed, cells=cells, many=1 + seed % 3, **kinds)


class OrderTest(unittest.TestCase):
    def test_all_orders(self):
        met = {}
        for seed in range(250):
            cells = ordered_cells(seed, 3 + seed % 3)
            page = Page(cells)
            orders = list(permutations(range(len(cells))))
            good = []
            for order in orders:
                why = plain_break(cells, order)
                if why is None:
                    good.append(list(order))
                if why is None or seed % 5 == 0:
                    self.assertEqual(breaks_at(page, order), why)
                    met[why and why[1]] = met.get(why and why[1], 0) + 1
            self.assertEqual(orders_count(page), len(good))
            self.assertEqual(good[0], list(range(len(cells))))
            for k in {0, len(good) - 1, len(good) // 2, len(good) // 3}:
                self.assertEqual(good_order(page, k), good[k])
            for k in (-1, len(good), True, None, "0", 0.0, 10 ** 4000):
                with self.assertRaises(BadK) as caught:
                    good_order(page, k)
                self.assertIs(caught.exception.k, k)
            self.check_pairs(page, good)
            self.check_moves(page, len(cells), good)
        self.assertGreater(min(met.values()), 50)

    def check_pairs(self, page, good):
        """Who is always ahead: of each two just one of both."""
        places = range(len(page.cells()))
        pairs = [(one, other) for one in places for other in places
                 if one != other and all(order.index(one) < order.index(other) for order in good)]
        self.assertEqual(always_ahead(page), pairs)
        for one in places:
            for other in places:
                if one != other:
                    told = turned_order(page, one, other)
                    self.assertEqual(told is None, (one, other) in pairs)
                    if told is not None:
                        self.assertIn(told, good)
                        self.assertLess(told.index(other), told.index(one))
                        self.assertEqual(told, turned_order(page, one, other))
        for one, other in pairs:
            for further in places:
                if (other, further) in pairs:
                    self.assertIn((one, further), pairs)

    def check_moves(self, page, many, good):
        for place in range(many):
            lets = []
            for to in range(many):
                order = [one for one in range(many) if one != place]
                order.insert(to, place)
                if order in good:
                    lets.append(to)
            self.assertEqual(move_lets(page, place), lets)
            self.assertIn(place, lets)

    def test_fewer_than_pairs_let(self):
        """A third cell behind either of two that leave one name: no pair tells this."""
        page = Page([[step("x", "f")], [("show", "x")], [step("x", "f")]])
        self.assertEqual(always_ahead(page), [])
        self.assertEqual(orders_count(page), 4)

    def test_edges(self):
        empty = Page([])
        self.assertEqual((orders_count(empty), good_order(empty, 0), breaks_at(empty, [])), (1, [], None))
        self.assertEqual((always_ahead(empty), fewest_moves(empty, ())), ([], 0))
        one = Page([[]])
        self.assertEqual((orders_count(one), move_lets(one, 0), always_ahead(one)), (1, [0], []))
        page = Page([[step("x", "f")], [step("x", "g")], [("show", "x"), ("show", "x")], []])
        self.assertEqual(breaks_at(page, [0, 3, 2, 1]), (2, "otherwise"))
        self.assertEqual(breaks_at(page, [2, 3, 0, 1]), (0, "misses"))
        self.assertEqual(breaks_at(page, [3, 1, 2, 0]), None)
        # A cell that reads what it set itself needs nothing from ahead.
        page = Page([[step("x", "f"), step("y", "g", "x")], [step("x", "h"), ("show", "x")]])
        self.assertEqual(orders_count(page), 2)
        # One cell reads two names: the one stands otherwise, the other not at all: it misses.
        page = Page([[step("x", "f")], [step("y", "f")], [step("x", "g")], [step("z", "g", "x", "y")]])
        self.assertEqual(breaks_at(page, [0, 3, 1, 2]), (1, "misses"))
        self.assertEqual(breaks_at(page, [0, 1, 3, 2]), (2, "otherwise"))

    def test_wrong_orders(self):
        page = Page([[step("x", "f")], [step("y", "g")], []])
        for function in (breaks_at, fewest_moves):
            for order, index in ((None, 0), ("012", 0), ({}, 0), ([], 3), ([0, 1], 2 + 1), ([0, 0, 1], 1), ([3], 0),
                                 ([0, 1, True], 2), ([0, 1, 2, 2], 3), ([0, 1, 2, 3], 3), ([2, "1", 0], 1),
                                 ([1.0], 0), ([-1], 0), ([10 ** 4000], 0), ([Strange()], 0)):
                with self.assertRaises(BadOrder) as caught:
                    function(page, order)
                self.assertEqual(caught.exception.index, index)

    def test_wrong_places_and_pairs(self):
        page = Page([[step("x", "f")], [step("y", "g")]])
        for thing in (None, 2, -1, True, "0", 0.0, [0], Strange(), 10 ** 4000):
            with self.assertRaises(BadPlace) as caught:
                move_lets(page, thing)
            self.assertIs(caught.exception.place, thing)
            for one, other in ((thing, 0), (1, thing), (thing, thing)):
                with self.assertRaises(BadPair) as caught:
                    turned_order(page, one, other)
                self.assertIs(caught.exception.one, one)
                self.assertIs(caught.exception.other, other)
        with self.assertRaises(BadPair):
            turned_order(page, 1, 1)


class MovesTest(unittest.TestCase):
    def test_all_rows_of_moves(self):
        """The fewest moves to each order of up to five cells, by all rows of moves."""
        for many in range(6):
            page = Page([[] for _ in range(many)])
            first = tuple(range(many))
            far = {first: 0}
            todo = [first]
            for order in todo:
                for place in range(many):
                    for to in range(many):
                        further = list(order[:place] + order[place + 1:])
                        further.insert(to, order[place])
                        if tuple(further) not in far:
                            far[tuple(further)] = far[order] + 1
                            todo.append(tuple(further))
            self.assertEqual(len(far), len(list(permutations(first))))
            for order, moves in far.items():
                self.assertEqual(fewest_moves(page, order), moves)

    def test_longest_ascending(self):
        page = Page([[]] * 9)
        for seed in range(60):
            order = list(range(9))
            maker(seed).shuffle(order)
            longest = max(bin(lot).count("1") for lot in range(512)
                          if [at for at in order if lot >> at & 1] == [at for at in range(9) if lot >> at & 1])
            self.assertEqual(fewest_moves(page, order), 9 - longest)


class CountTest(unittest.TestCase):
    def test_exact_numbers(self):
        page = Page([[step("x", "f"), ("show", "x")] for _ in range(10)])
        self.assertEqual(orders_count(page), 3628800)
        self.assertEqual(good_order(page, 3628799), list(range(9, -1, -1)))
        self.assertEqual(good_order(page, 362880), [1, 0] + list(range(2, 10)))

    def test_good_orders_show_the_same(self):
        """A good order, done as a page of its own, shows each cell's things as they are."""
        for seed in range(60):
            cells = ordered_cells(seed, 5)
            page = Page(cells)
            for k in range(min(orders_count(page), 12)):
                order = good_order(page, k)
                values, shown = {}, {}
                for place in order:
                    shown[place] = []
                    do_all(cells[place], values, shown[place], never)
                values = {}
                for place, cell in enumerate(cells):
                    mine = []
                    do_all(cell, values, mine, never)
                    self.assertEqual(shown[place], mine)


if __name__ == "__main__":
    unittest.main()
