"""[12.4], [12.5]: what all histories have in common."""

import unittest

from pagestrue.meanings import is_meaning
from pagestrue.alikeparts import parting_meaning
from pagestrue.errors import Unsound
from pagestrue.pages import Page
from pagestrue.passes import is_pass, parts_by, pass_of, words_by
from pagestrue.tops import first_miss, top
from pagestrue.webs import joined_webs
from tests.making import maker
from tests.pasts import Past, never, some_pasts
from tests.plain import plain_row, term_of


def step(name, does, *names):
    return ("set", name, does, list(names))


def terms_of(web, dicts):
    """Dicts of parts as dicts of terms."""
    return [{name: None if one[name] is None else term_of(web, one[name], never) for name in one} for one in dicts]


class PassTest(unittest.TestCase):
    def test_one_walk_tells_what_all_histories_do(self):
        sure, open_ones = 0, 0
        for past in some_pasts(150, most_strangers=1) + some_pasts(100, cells=4):
            runs = [past.run(history)[0] for history in past.histories(past.strangers)]
            plain = [{name: past.common([run[number][name] for run in runs]) for name in past.names}
                     for number in range(past.last + 1)]
            web, stands = pass_of(*past.with_strangers)
            self.assertEqual(terms_of(web, stands), plain)
            self.assertEqual([list(stand) for stand in stands], [past.names] * (past.last + 1))
            values = [stand[name] for stand in stands for name in stand]
            sure += sum(part is not None for part in values) > 0
            open_ones += None in values[len(past.names):]
        self.assertGreater(sure, 100)
        self.assertGreater(open_ones, 100)

    def test_edges(self):
        page = Page([[step("x", "f")], [("copy", "y", "x")]])
        self.assertEqual(pass_of(page, [0, 0], []), ([], [{"x": None, "y": None}]))
        self.assertEqual(pass_of(Page([]), [], []), ([], [{}]))
        web, stands = pass_of(page, [2, 4], [])
        self.assertEqual(terms_of(web, stands), [
            {"x": None, "y": None}, {"x": None, "y": None}, {"x": ("f", ()), "y": None},
            {"x": ("f", ()), "y": ("f", ())}, {"x": ("f", ()), "y": ("f", ())}])
        web, stands = pass_of(page, [1, 3], [2])
        self.assertEqual(stands[2:], [{"x": None, "y": None}] * 2)

    def test_a_lacking_number_with_one_part_in_all(self):
        page = Page([[step("x", "f")], [step("y", "f"), ("copy", "x", "y")], [step("z", "g", "x"), ("show", "z")]])
        web, stands = pass_of(page, [1, 3, 4], [])
        self.assertEqual(term_of(web, stands[2]["x"], never), ("f", ()))
        self.assertIsNone(stands[2]["y"])
        self.assertEqual(words_by(page, [1, 3, 4], []), [[], [], ["true"]])


class IsPassTest(unittest.TestCase):
    def test_whatever_other_rows(self):
        for seed, past in enumerate(some_pasts(80, most_strangers=1)):
            web, stands = pass_of(*past.with_strangers)
            self.assertIs(is_pass(*past.with_strangers, (web, stands)), True)
            self.assertIs(is_pass(*past.with_strangers, [web, tuple(stands)]), True)
            more, places = joined_webs([("given", 7), ("asked", "t", (0,)), ("made", "f", (0,)),
                                        ("either", 1, 0, 2)], web)
            led = [{name: None if one[name] is None else places[one[name]] for name in reversed(one)} for one in stands]
            self.assertIs(is_pass(*past.with_strangers, (more, led)), True)
            self.check_others(past, maker(seed), more, led)

    def check_others(self, past, rng, web, stands):
        """Anything else than what is told under some name is wrong."""
        self.assertIs(is_pass(*past.with_strangers, (web, stands[:-1])), False)
        self.assertIs(is_pass(*past.with_strangers, (web, stands + stands[-1:])), False)
        if not past.names:
            return
        for _ in range(6):
            at, name = rng.randrange(len(stands)), rng.choice(past.names)
            for other in [None, 0, 2, 3, 1, True, -1, len(web), "0", *range(4, len(web))]:
                wrong = [dict(one) for one in stands]
                wrong[at][name] = other
                is_right = type(other) is type(stands[at][name]) and other == stands[at][name]
                self.assertIs(is_pass(*past.with_strangers, (web, wrong)), is_right)
            wrong = [dict(one) for one in stands]
            del wrong[at][name]
            self.assertIs(is_pass(*past.with_strangers, (web, wrong)), False)
            wrong[at]["zz"] = stands[at][name]
            self.assertIs(is_pass(*past.with_strangers, (web, wrong)), False)
            wrong[at][name] = stands[at][name]
            self.assertIs(is_pass(*past.with_strangers, (web, wrong)), False)

    def test_no_pass(self):
        page = Page([[step("x", "f")]])
        right = ([("made", "f", ())], [{"x": None}, {"x": 0}])
        self.assertIs(is_pass(page, [1], [], right), True)
        for thing in (None, (), right[:1], right + right, (None, right[1]), (right[0], None), (right[0], {}),
                      ([("made", "g", ())], right[1]), (right[0] * 2, right[1]), (right[0], [{"x": None}, ["x"]])):
            self.assertIs(is_pass(page, [1], [], thing), False)


class WordsTest(unittest.TestCase):
    def test_plainly(self):
        met = {"true": 0, "untrue": 0, "open": 0}
        for past in some_pasts(200, most_strangers=1) + some_pasts(150, cells=4):
            shown = [past.run(history)[1] for history in past.histories(past.strangers)]
            web, parts = parts_by(*past.with_strangers)
            told = [None if one is None else [part if part is None else term_of(web, part, never) for part in one]
                    for one in parts]
            plain = []
            for place in range(len(past.cells)):
                many = len([one for one in past.cells[place] if one[0] == "show"])
                plain.append([past.common([one[place][at] for one in shown]) for at in range(many)]
                             if past.numbers[place] else None)
            self.assertEqual(told, plain)
            self.check_words(past, plain, met)
        self.assertGreater(min(met.values()), 20)

    def check_words(self, past, plain, met):
        miss = first_miss(past.page)
        if miss is not None:
            with self.assertRaises(Unsound) as caught:
                words_by(*past.with_strangers)
            self.assertEqual(caught.exception.index, miss)
            return
        tops = [run[0] for run in plain_row(past.cells, range(len(past.cells)), {}, never)[0]]
        words = words_by(*past.with_strangers)
        for one, terms, top_terms in zip(words, plain, tops):
            if terms is None:
                self.assertIsNone(one)
                continue
            self.assertEqual(one, ["open" if term is None else "true" if term == top_term else "untrue"
                                   for term, top_term in zip(terms, top_terms)])
            for word in one:
                met[word] += 1

    def test_of_an_untrue_one_there_is_a_meaning(self):
        many = 0
        for past in [Past(seed, most_gaps=1, shows=1) for seed in range(160)]:
            if first_miss(past.page) is not None:
                continue
            web, parts = parts_by(*past.passed, [])
            mine, shown = top(past.page)[:2]
            both, places = joined_webs(web, mine)
            for one, words, tops in zip(parts, words_by(*past.passed, []), shown):
                for part, word, its in zip(one or [], words or [], tops):
                    if word != "open":
                        meaning = parting_meaning(both, part, places[its])
                        self.assertEqual(meaning is None, word == "true")
                        many += word == "untrue"
                        self.assertTrue(meaning is None or is_meaning(both, meaning))
        self.assertGreater(many, 5)


if __name__ == "__main__":
    unittest.main()
