"""[12.1] to [12.3]: numbers beside cells, and the histories that fit them."""

import unittest

from pagestrue.errors import BadAt, BadHistory, BadLot, BadNumbers, BadPlace, BadStrangers, BadValues
from pagestrue.opencertificates import is_enough, open_certificate
from pagestrue.pagenumbers import (histories, history_shown, is_history, is_history_with, is_numbers,
                                   lacking_numbers)
from pagestrue.pages import Page
from pagestrue.passes import is_pass, parts_by, pass_of, words_by
from pagestrue.savedpages import saved
from pagestrue.savedvalues import bears
from tests.pasts import never, some_pasts
from tests.plain import plain_run, term_of


def step(name, does, *names):
    return ("set", name, does, list(names))


class NumbersTest(unittest.TestCase):
    PAGE = Page([[step("x", "f")], [], [("show", "x")]])

    def test_what_numbers_are(self):
        for thing in ([0, 0, 0], (1, 2, 3), [0, 10 ** 5000, 1], [30, 0, 7]):
            self.assertIs(is_numbers(self.PAGE, thing), True)
        for thing in ([1, 1, 0], [1, 2], [1, 2, 3, 4], [], None, "123", [1, 2, True], [False, 1, 2], [0, 0, -1],
                      [1, 2.0, 3], {0: 0, 1: 0, 2: 0}, [0, 0, "0"]):
            self.assertIs(is_numbers(self.PAGE, thing), False)
        self.assertIs(is_numbers(Page([]), []), True)
        self.assertIs(is_numbers(Page([]), [0]), False)

    def test_the_first_wrong_thing(self):
        for thing, index in [([1, 1, 0], 1), ([0, 2, 2], 2), ([None, 1, 1], 0), ([1, 2], 3), ([1, 2, 3, 4], 3),
                             ([1, 2, 3, 0, 0], 3), ([1, True], 1), ({}, 0), ([5, 0, -5], 2), ([2, 1, 2], 2)]:
            with self.assertRaises(BadNumbers) as caught:
                histories(self.PAGE, thing)
            self.assertEqual(caught.exception.index, index)

    def test_lacking(self):
        self.assertEqual(lacking_numbers(self.PAGE, [5, 0, 2]), {1: [0, 2], 3: [0], 4: [0]})
        self.assertEqual(lacking_numbers(self.PAGE, [0, 0, 0]), {})
        self.assertEqual(lacking_numbers(self.PAGE, [1, 3, 2]), {})
        for past in some_pasts(100, cells=4):
            told = lacking_numbers(*past.passed)
            self.assertEqual(told, {number: [place for place, its in enumerate(past.numbers) if its > number]
                                    for number in past.gaps})
            self.assertEqual(list(told), sorted(told))


class WhateverNumbersTest(unittest.TestCase):
    """What is refused is refused beside numbers however great."""

    def test_refused(self):
        page = Page([[step("x", "f"), ("show", "x")], []])
        numbers = [10 ** 5000, 3]
        for strangers, index in ((None, 0), ([3], 0), ([1, 10 ** 5000], 1), ([4, 2], 1), ([10 ** 4999, 0], 1)):
            for function in (pass_of, parts_by, words_by):
                with self.assertRaises(BadStrangers) as caught:
                    function(page, numbers, strangers)
                self.assertEqual(caught.exception.index, index)
        with self.assertRaises(BadHistory):
            history_shown(page, numbers, [1, 2, 10 ** 4000], [0, 1, 1])
        with self.assertRaises(BadPlace):
            open_certificate(page, numbers, [], 2, 0)
        with self.assertRaises(BadAt):
            open_certificate(page, numbers, [], 0, 1)
        with self.assertRaises(BadLot):
            is_enough(page, numbers, [3])
        with self.assertRaises(BadValues):
            saved(page, numbers, [[], []])
        with self.assertRaises(BadHistory):
            bears(page, numbers, [[5], []], [0, 1])
        self.assertIs(is_history(page, numbers, [0, 1, 1]), False)
        self.assertIs(is_pass(page, numbers, [2], ([], [{"x": None}])), False)


class StrangersTest(unittest.TestCase):
    def test_lacking_numbers_alone(self):
        """Where each cell was run 0 lacks, too, but is no lacking number; nor is any behind the last one."""
        page = Page([[step("x", "f")], [("show", "x")]])
        self.assertIs(is_history_with(page, [1, 4], [2, 3], [0, None, 1, 1]), True)
        for strangers, index in (([0], 0), ([2, 4], 1), ([5], 0), ([1], 0), ([2, 3, 5], 2), ([3, 2], 1)):
            with self.assertRaises(BadStrangers) as caught:
                is_history_with(page, [1, 4], strangers, [0, 1, 1, 1])
            self.assertEqual(caught.exception.index, index)
            with self.assertRaises(BadLot) as caught:
                is_enough(page, [1, 4], strangers)
            self.assertEqual(caught.exception.index, index)


class HistoriesTest(unittest.TestCase):
    def test_all_of_them(self):
        for past in some_pasts(120, most_strangers=2):
            told = histories(*past.passed)
            self.assertEqual(told, past.histories())
            mine = past.histories(past.strangers)
            for history in past.histories(past.gaps) + [[], [0], [0] * (past.last + 1)]:
                self.assertIs(is_history(*past.passed, history), history in told)
                self.assertIs(is_history_with(*past.with_strangers, history), history in mine)
                self.assertIs(is_history_with(*past.passed, [], tuple(history)), history in told)

    def test_no_histories(self):
        page = Page([[step("x", "f")], []])
        for thing in (None, {}, "01", [0], [0, 1, 1], [True, 0], [0, False], [0, 1.0], [0, None], [0, 2], [0, -1]):
            self.assertIs(is_history(page, [1, 2], thing), False)
        self.assertIs(is_history(page, [1, 2], [0, 1]), True)

    def test_nothing_was_run(self):
        page = Page([[step("x", "f")], [("show", "y")]])
        self.assertEqual(histories(page, [0, 0]), [[]])
        self.assertIs(is_history(page, [0, 0], ()), True)
        self.assertEqual(history_shown(page, [0, 0], [], []),
                         ([("given", 0), ("given", 1)], {"x": 0, "y": 1}, [None, None]))
        self.assertEqual(history_shown(Page([]), [], [], []), ([], {}, []))


class ShownTest(unittest.TestCase):
    def test_plainly(self):
        with_strangers = 0
        for past in some_pasts(150, most_strangers=2):
            for history in past.histories(past.strangers)[:6]:
                web, stand, shown = history_shown(*past.with_strangers, history)
                values, terms = past.run(history)
                self.assertEqual(list(stand), past.names)
                self.assertEqual({name: term_of(web, stand[name], never) for name in stand}, values[-1])
                self.assertEqual([None if one is None else [term_of(web, part, never) for part in one]
                                  for one in shown], terms)
                self.check_rows(past, web, history)
                with_strangers += None in history
        self.assertGreater(with_strangers, 20)

    def check_rows(self, past, web, history):
        """Rows stand in the order in which they come to be."""
        many = len(past.names)
        due = [("given", at) for at in range(many)]
        for number, place in enumerate(history):
            if place is None:
                due += [("given", (number + 1) * many + at) for at in range(many)]
                continue
            ahead = past.run(history[:number])[0][-1]
            for at in range(1, len(past.cells[place]) + 1):
                statement = past.cells[place][at - 1]
                behind = self.values_amid(past, place, at, ahead)
                if statement[0] == "set" and behind[statement[1]] not in due:
                    due.append(behind[statement[1]])
        self.assertEqual([term_of(web, at, never) for at in range(len(web))], due)

    def values_amid(self, past, place, many, values):
        return plain_run(past.cells[place][:many], values, never)[0]

    def test_a_stranger_leaves_all_names(self):
        page = Page([[step("x", "f", "y")], [("show", "x"), ("show", "z")]])
        self.assertEqual(history_shown(page, [1, 3], [2], [0, None, 1]), (
            [("given", 0), ("given", 1), ("given", 2), ("made", "f", (1,)), ("given", 6), ("given", 7), ("given", 8)],
            {"x": 4, "y": 5, "z": 6}, [[], [4, 6]]))


if __name__ == "__main__":
    unittest.main()
