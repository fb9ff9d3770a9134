"""[6.1], [6.2]: meanings, free ones."""

import unittest
from itertools import product

from pagestrue.errors import BadChoices
from pagestrue.meanings import choice_lists, free_meaning, is_meaning, meaning_fault
from tests.making import a_web, maker
from tests.plain import is_plainly_right, over_worlds, term_of

WEB = [("made", "f", ()), ("given", 0), ("asked", "t", (0,)), ("either", 2, 0, 1), ("made", "g", (0,)),
       ("made", "g", (3,)), ("asked", "t", (3,)), ("asked", "s", (0,)), ("made", "f", (1,))]
RIGHT = [0, 1, True, 0, 2, 2, True, False, 0]


class MeaningTest(unittest.TestCase):
    def test_right_ones(self):
        for meaning in [RIGHT, tuple(RIGHT), [5, 5, True, 5, 5, 5, True, True, 5],
                        [0, 1, False, 1, 2, 3, True, False, 7], [10 ** 50, 1, False, 1, 2, 3, False, True, 0]]:
            self.assertIsNone(meaning_fault(WEB, meaning))
            self.assertIs(is_meaning(WEB, meaning), True)
        self.assertIsNone(meaning_fault([], []))

    def test_faults(self):
        for at, worth, fault in [
                (0, True, (0, "form")), (0, -1, (0, "form")), (1, "1", (1, "form")), (1, None, (1, "form")),
                (2, 1, (2, "form")), (2, None, (2, "form")), (3, False, (3, "form")), (3, 1, (3, "side")),
                (3, 2, (3, "side")), (2, False, (3, "side")), (5, 1, (5, "like")), (4, 1, (5, "like")),
                (6, False, (6, "like")), (7, 0, (7, "form")), (8, 0.0, (8, "form")), (5, [], (5, "form"))]:
            meaning = list(RIGHT)
            meaning[at] = worth
            self.assertEqual(meaning_fault(WEB, meaning), fault)
            self.assertEqual(meaning_fault(WEB, meaning + [None]), fault)
            self.assertEqual(meaning_fault(WEB, meaning[:fault[0] + 1]), fault)
            self.assertIs(is_meaning(WEB, meaning), False)

    def test_lengths(self):
        for thing in [None, "", {}, 0]:
            self.assertEqual(meaning_fault(WEB, thing), (0, "form"))
            self.assertEqual(meaning_fault([], thing), (0, "form"))
        for many in range(9):
            self.assertEqual(meaning_fault(WEB, RIGHT[:many]), ("many", 9))
        self.assertEqual(meaning_fault(WEB, RIGHT + [None]), ("many", 9))
        self.assertEqual(meaning_fault([], [0]), ("many", 0))

    def test_word_by_word(self):
        for seed in range(60):
            web = a_web(seed, rows=5, most_asked=2, steps=1, tests=1)
            kinds = [(False, True) if row[0] == "asked" else (0, 1, 2) for row in web]
            for meaning in product(*kinds):
                self.assertEqual(is_meaning(web, meaning), is_plainly_right(web, meaning))


class FreeTest(unittest.TestCase):
    def test_choices(self):
        self.assertEqual(choice_lists(WEB), [
            [False, False, False], [False, False, True], [False, True, False], [False, True, True],
            [True, False], [True, True]])
        self.assertEqual(free_meaning(WEB, [True, False]), [0, 1, True, 0, 2, 2, True, False, 3])
        self.assertEqual(free_meaning(WEB, [False, False, True]), [0, 1, False, 1, 2, 3, False, True, 4])
        self.assertEqual(choice_lists([]), [[]])
        self.assertEqual(free_meaning([], [True, False]), [])

    def test_those_that_are_not_needed_are_passed_over(self):
        self.assertEqual(free_meaning(WEB, [True, False, True, True]), free_meaning(WEB, [True, False]))

    def test_bad_choices(self):
        for choices, index in [(None, 0), ("", 0), ({0: True}, 0), ([], 0), ([True], 1),
                               ([False, False], 2), ([0, False], 0), ([False, 1], 1), ([True, None], 1),
                               ([True, False, 0], 2), ([True, True, False, "x"], 3)]:
            with self.assertRaises(BadChoices) as caught:
                free_meaning(WEB, choices)
            self.assertEqual(caught.exception.index, index)

    def test_all_choices_are_all_worlds(self):
        for seed in range(100):
            web = a_web(seed, rows=10, most_asked=4, tests=1)
            lists = choice_lists(web)
            self.assertEqual(lists, sorted(lists))

            def act(ask):
                asked = []

                def noting(test, terms):
                    if (test, terms) not in [one[0] for one in asked]:
                        asked.append(((test, terms), ask(test, terms)))
                    return ask(test, terms)

                return [term_of(web, at, noting) for at in range(len(web))], [one[1] for one in asked]

            worlds = over_worlds(act)
            self.assertEqual([choices for _, choices in worlds], lists)
            for terms, choices in worlds:
                meaning = free_meaning(web, choices)
                self.assertIsNone(meaning_fault(web, meaning))
                numbers = {}
                for at, row in enumerate(web):
                    if row[0] == "asked":
                        self.assertIs(meaning[at], terms[at])
                    elif row[0] == "either":
                        self.assertEqual(meaning[at], numbers[terms[at]])
                    else:
                        self.assertEqual(meaning[at], numbers.setdefault(terms[at], len(numbers)))
                for less in range(len(choices)):
                    with self.assertRaises(BadChoices) as caught:
                        free_meaning(web, choices[:less])
                    self.assertEqual(caught.exception.index, less)

    def test_a_row_more(self):
        for seed in range(60):
            rng = maker(seed)
            web = a_web(seed, rows=12)
            short = web[:rng.randint(0, len(web))]
            for choices in choice_lists(web):
                meaning = free_meaning(web, choices)
                self.assertEqual(free_meaning(short, choices), meaning[:len(short)])


if __name__ == "__main__":
    unittest.main()
