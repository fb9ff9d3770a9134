"""[13.1] to [13.6]: saved pages, and the values seen in them."""

import unittest
from itertools import combinations

from pagestrue.meanings import is_meaning
from pagestrue.pagenumbers import history_shown
from pagestrue.pages import Page
from pagestrue.passes import words_by
from pagestrue.savedpages import bearing, is_none_certificate, saved, sure_runs
from pagestrue.savedvalues import bears, value_clash
from pagestrue.savedwords import fewest_doubts, saved_words
from pagestrue.tops import first_miss
from tests.making import maker
from tests.pasts import Past, never
from tests.plain import all_meanings, plain_row, term_of


def step(name, does, *names):
    return ("set", name, does, list(names))


def values_for(past, seed):
    """Values that some history bears, or that hardly any does."""
    rng = maker(seed)
    history = rng.choice(past.histories())
    terms = past.run(history)[1]
    met = []
    for one in terms:
        for term in one or []:
            met += [term] if term not in met else []
    told = []
    for one in terms:
        if seed % 4 == 0:
            told.append([rng.randrange(2) for _ in one or []])
        elif seed % 4 == 1:
            told.append([7 for _ in one or []])
        else:
            told.append([met.index(term) for term in one or []])
    if seed % 4 == 3 and past.things():
        place, at = rng.choice(past.things())
        told[place][at] = rng.randrange(3)
    return told


class Seen:
    """A past with values, and what plain searches tell of them."""

    def __init__(self, seed, **kinds):
        self.past = Past(seed, shows=0.9, **kinds)
        self.values = values_for(self.past, seed)
        self.passed = (self.past.page, self.past.numbers, self.values)

    def lots(self, beginning, things, more=()):
        """The things' terms, and which terms are led together, by things of which the values are known."""
        values, shown = self.past.run(beginning)
        terms = {thing: shown[thing[0]][thing[1]] for thing in things}
        every = set()
        todo = [term for one in values for term in one.values()] + list(terms.values()) + list(more)
        while todo:
            term = todo.pop()
            if term not in every:
                every.add(term)
                todo += [] if term[0] == "given" else list(term[1])
        led = {(term, term) for term in every}
        led |= {(terms[one], terms[other]) for one in things for other in things
                if self.value(one) == self.value(other)}
        while True:
            more = set(led)
            for one in every:
                for other in every:
                    if one[0] == other[0] != "given" and len(one[1]) == len(other[1]):
                        if all(pair in led for pair in zip(one[1], other[1])):
                            more.add((one, other))
            more |= {(a, d) for a, b in more for c, d in more if b == c}
            if more == led:
                return terms, led
            led = more

    def value(self, thing):
        return self.values[thing[0]][thing[1]]

    def within(self, beginning):
        """The things whose numbers are within the beginning."""
        return [thing for thing in self.past.things() if self.past.numbers[thing[0]] <= len(beginning)]

    def clashes(self, beginning, things):
        """All pairs of things with unlike values that are led together."""
        terms, led = self.lots(beginning, things)
        return [(one, other) for one, other in combinations(sorted(things), 2)
                if self.value(one) != self.value(other) and (terms[one], terms[other]) in led]

    def first_clash(self, history):
        found = self.clashes(history, self.past.things())
        return found[0] if found else None


def some_seen(many, **kinds):
    return [Seen(seed, **kinds) for seed in range(many)]


class BearsTest(unittest.TestCase):
    def test_clashes(self):
        met = [0, 0, 0]
        for seen in some_seen(400) + some_seen(60, cells=4, most_gaps=2):
            for history in seen.past.histories()[:6]:
                clash = seen.first_clash(history)
                self.assertEqual(value_clash(*seen.passed, history), clash)
                self.assertIs(bears(*seen.passed, history), clash is None)
                met[0] += clash is None
                if clash is not None:
                    terms = seen.past.run(history)[1]
                    is_same = terms[clash[0][0]][clash[0][1]] == terms[clash[1][0]][clash[1][1]]
                    met[1 if is_same else 2] += 1
                else:
                    self.check_meaning(seen, history)
        self.assertGreater(min(met), 15)

    def check_meaning(self, seen, history):
        """By the lots of rows that are led together some right meaning gives each part its value."""
        web, _, shown = history_shown(seen.past.page, seen.past.numbers, [], history)
        terms = [term_of(web, at, never) for at in range(len(web))]
        _, led = seen.lots(history, seen.past.things(), terms)
        own = {}
        for place, at in seen.past.things():
            own[terms[shown[place][at]]] = seen.value((place, at))
        meaning = []
        for term in terms:
            lot = [number for number in range(len(terms)) if (terms[number], term) in led]
            known = [own[terms[number]] for number in lot if terms[number] in own]
            meaning.append(known[0] if known else 100 + lot[0])
        self.assertTrue(is_meaning(web, meaning))
        for place, at in seen.past.things():
            self.assertEqual(meaning[shown[place][at]], seen.value((place, at)))

    def test_by_all_meanings(self):
        met = [0, 0]
        for seen in some_seen(120, cells=2, most_gaps=2):
            for history in seen.past.histories()[:4]:
                web, _, shown = history_shown(seen.past.page, seen.past.numbers, [], history)
                if len(web) > 5 or max([0] + [seen.value(thing) for thing in seen.past.things()]) > 4:
                    continue
                is_borne = any(all(meaning[shown[place][at]] == seen.value((place, at))
                                   for place, at in seen.past.things())
                               for meaning in all_meanings(web, 5))
                self.assertIs(bears(*seen.passed, history), is_borne)
                met[is_borne] += 1
        self.assertGreater(min(met), 10)

    def test_edges(self):
        page = Page([[step("x", "f"), ("show", "x")], [], [("show", "y")]])
        self.assertIs(bears(page, [0, 0, 0], [[], [], []], []), True)
        self.assertIs(bears(page, [2, 1, 0], ([10 ** 5000], (), []), [1, 0]), True)
        self.assertIs(bears(Page([]), [], [], []), True)
        two = Page([[step("x", "f"), ("show", "x"), ("show", "x")]])
        self.assertEqual(value_clash(two, [1], [[3, 4]], [0]), ((0, 0), (0, 1)))
        self.assertIs(bears(two, [1], [[0, 0]], [0]), True)

    def test_led_by_like_values_and_by_steps(self):
        page = Page([[step("x", "f"), step("y", "g"), ("show", "x"), ("show", "y")],
                     [step("z", "h", "x"), ("show", "z")], [step("z", "h", "y"), ("show", "z")]])
        self.assertIs(bears(page, [1, 2, 3], [[5, 6], [1], [2]], [0, 1, 2]), True)
        self.assertEqual(value_clash(page, [1, 2, 3], [[5, 5], [1], [2]], [0, 1, 2]), ((1, 0), (2, 0)))
        self.assertIs(bears(page, [1, 2, 3], [[5, 5], [2], [2]], [0, 1, 2]), True)
        third = Page([[step("x", "f", "x"), step("y", "f", "x"), ("show", "x"), ("show", "y")], [("show", "x")],
                      [step("z", "g", "x"), step("w", "g", "y"), ("show", "z"), ("show", "w")]])
        self.assertEqual(value_clash(third, [1, 2, 3], [[4, 4], [4], [0, 1]], [0, 1, 2]), ((2, 0), (2, 1)))


class SavedTest(unittest.TestCase):
    def test_just_one(self):
        met = {"borne": 0, "none": 0}
        for seen in some_seen(300):
            found = [history for history in seen.past.histories() if seen.first_clash(history) is None]
            self.assertEqual(bearing(*seen.passed), found)
            sure = {number: found[0][number - 1] for number in seen.past.gaps
                    if found and len({history[number - 1] for history in found}) == 1}
            self.assertEqual(sure_runs(*seen.passed), sure)
            word, told = saved(*seen.passed)
            met[word] += 1
            if found:
                self.assertEqual((word, told), ("borne", found[0]))
                self.assertIs(is_none_certificate(*seen.passed, told), False)
                continue
            self.assertEqual(word, "none")
            self.check_certificate(seen, told)
            self.check_certificate(seen, self.short_certificate(seen))
        self.assertGreater(min(met.values()), 50)

    def short_certificate(self, seen):
        """Of each history the shortest beginning that clashes."""
        told = {}
        for history in seen.past.histories():
            for many in range(len(history) + 1):
                found = seen.clashes(history[:many], seen.within(history[:many]))
                if found:
                    told[tuple(history[:many])] = found[-1]
                    break
        return [(list(beginning), told[beginning]) for beginning in told]

    def check_certificate(self, seen, told):
        """It is one; without one of its beginnings, or with one more, it is none."""
        self.assertIs(is_none_certificate(*seen.passed, told), True)
        turned = [[tuple(beginning), [list(other), one]] for beginning, (one, other) in told[::-1]]
        self.assertIs(is_none_certificate(*seen.passed, turned), True)
        for at, (beginning, pair) in enumerate(told):
            self.assertEqual(seen.clashes(beginning, seen.within(beginning)).count(pair), 1)
            self.assertIs(is_none_certificate(*seen.passed, told[:at] + told[at + 1:]), False)
            self.assertIs(is_none_certificate(*seen.passed, told + [told[at]]), False)
            if len(beginning) < seen.past.last:
                more = [history for history in seen.past.histories() if history[:len(beginning)] == beginning][0]
                self.assertIs(is_none_certificate(*seen.passed, told + [(more, pair)]), False)
            for one, other in combinations(seen.past.things(), 2):
                is_right = (one, other) in seen.clashes(beginning, seen.within(beginning)) \
                    if {one, other} <= set(seen.within(beginning)) else False
                changed = told[:at] + [(beginning, (other, one))] + told[at + 1:]
                self.assertIs(is_none_certificate(*seen.passed, changed), is_right)

    def test_wrong_certificates(self):
        page = Page([[step("x", "f")], [step("x", "g", "x"), ("show", "x")], [("show", "x")]])
        passed = (page, [1, 3, 4], [[], [5], [6]])
        one, other, pair = [0, 1, 1, 2], [0, 2, 1, 2], ((1, 0), (2, 0))
        self.assertIs(is_none_certificate(*passed, [(other, pair), (one, pair)]), True)
        for thing in (None, [], [(one, pair)], [(one, pair), (one, pair)], [(one, pair), (other, pair), (one, pair)],
                      [([0], pair)], [([], pair)], [(one, pair), (other, pair), ([0, 0, 1, 2], pair)],
                      [(one, pair), (other, ((1, 0), (1, 0)))], [(one, pair), (other, ((1, 0), (0, 0)))],
                      [(one, pair), (other, ((1, 0), (2, 1)))], [(one, pair), (other, ((1, 0),))],
                      [(one, pair), (other, ((1, False), (2, 0)))], [(one, pair), (other, None)],
                      [(one, pair), (other[:3], pair)], [(one, pair), other]):
            self.assertIs(is_none_certificate(*passed, thing), False)

    def test_nothing_was_run(self):
        page = Page([[("show", "x")]])
        self.assertEqual(saved(page, [0], [[]]), ("borne", []))
        self.assertEqual(bearing(page, [0], [[]]), [[]])
        self.assertEqual(sure_runs(page, [0], [[]]), {})
        self.assertEqual(saved_words(page, [0], [[]]), [[]])
        self.assertEqual(fewest_doubts(page, [0], [[]]), [])
        self.assertIs(is_none_certificate(page, [0], [[]], []), False)


class DoubtsTest(unittest.TestCase):
    def test_by_all_lots(self):
        met = {}
        for seen in some_seen(400) + some_seen(80, cells=4, most_gaps=2):
            things = seen.past.things()
            plain = None
            for many in range(len(things) + 1):
                for lot in combinations(things, many):
                    left = [thing for thing in things if thing not in lot]
                    if plain is None and any(not seen.clashes(history, left) for history in seen.past.histories()):
                        plain = list(lot)
            told = fewest_doubts(*seen.passed)
            self.assertEqual(told, plain)
            self.assertEqual(told == [], saved(*seen.passed)[0] == "borne")
            met[len(told)] = met.get(len(told), 0) + 1
        self.assertGreater(min(met[0], met[1], met[2]), 3)


class WordsTest(unittest.TestCase):
    def test_plainly(self):
        met = {"true": 0, "untrue": 0, "open": 0, None: 0}
        closer = 0
        for seen in some_seen(250):
            past = seen.past
            start = {name: ("given", at) for at, name in enumerate(past.names)}
            tops = [run[0] for run in plain_row(past.cells, range(len(past.cells)), start, never)[0]]
            told = saved_words(*seen.passed)
            found = [past.run(history)[1] for history in bearing(*seen.passed)]
            if not found:
                self.assertIsNone(told)
                met[None] += 1
                continue
            plain = [[] for _ in past.cells]
            for place, at in past.things():
                like = [one[place][at] == tops[place][at] for one in found]
                plain[place].append("true" if all(like) else "open" if any(like) else "untrue")
                met[plain[place][at]] += 1
            self.assertEqual(told, plain)
            if first_miss(past.page) is None:
                closer += self.check_closer(past, told)
        self.assertGreater(min(met.values()), 20)
        self.assertGreater(closer, 3)

    def check_closer(self, past, told):
        """What is told for sure without values is told so here; how many are told closer."""
        closer = 0
        for words, mine in zip(words_by(*past.passed, []), told):
            for word, its in zip(words or [], mine):
                if word != "open":
                    self.assertEqual(word, its)
                closer += word == "open" != its
        return closer

    def test_values_that_are_all_like(self):
        for seed in range(60):
            past = Past(seed, shows=1)
            values = [[4] * len(one or []) for one in past.run(past.histories()[0])[1]]
            self.assertEqual(bearing(past.page, past.numbers, values), past.histories())
            self.assertEqual(fewest_doubts(past.page, past.numbers, values), [])


if __name__ == "__main__":
    unittest.main()
