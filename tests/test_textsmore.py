"""[21.4] to [21.8]: rows of runs, meanings, case trees, views as text."""

import unittest

from pagestrue.alikeparts import are_alike, parting_meaning
from pagestrue.againrows import come_again
from pagestrue.casetexts import cases_text, cases_text_fault, read_cases
from pagestrue.casetrees import case_tree, is_case_tree
from pagestrue.errors import BadMeaning, BadPart, BadRuns, BadWeb
from pagestrue.leastuntrue import first_untrue
from pagestrue.meanings import choice_lists, free_meaning, is_meaning
from pagestrue.meaningtexts import meaning_text, meaning_text_fault, read_meaning
from pagestrue.misleading import is_misleading, untrue_meaning
from pagestrue.nevers import is_never
from pagestrue.pages import Page
from pagestrue.pagetexts import page_text, read_page
from pagestrue.refusals import BadCasesText, BadMany, BadMeaningText, BadRunsText, BadTree, BadViewsForm, BadViewsText
from pagestrue.runtexts import read_runs, runs_text, runs_text_fault
from pagestrue.standtexts import read_stand, stand_text
from pagestrue.viewtexts import read_views, views_text, views_text_fault
from pagestrue.webtexts import read_web, web_text
from tests.making import Strange, a_web, maker, parts_of, sound_cells, strange_things
from tests.texting import NAME, FIGURES, all_next_signs, check_faults, figures_from, names_from, one_changed

SIGNS = "0123aeiklnosxyz =*.\n-\t"
WEB = [("made", "f", ()), ("made", "g", ()), ("asked", "t", (0,)), ("either", 2, 0, 1), ("made", "h", (3,)),
       ("made", "h", (0,)), ("made", "h", (1,)), ("either", 2, 5, 6), ("asked", "t", (3,)), ("either", 8, 5, 7)]


class Texts(unittest.TestCase):
    def no_strings(self, fault, *passed):
        for thing in strange_things():
            if not isinstance(thing, str):
                self.assertEqual(fault(*passed, thing), (0, 0))


class RunTextTest(Texts):
    def plain(self, many, text):
        if text == "\n":
            return []
        words = text[:-1].split(" ")
        if not text.endswith("\n") or "\n" in text[:-1] or not all(FIGURES.match(word) for word in words):
            return None
        return [int(word) for word in words] if all(int(word) < many for word in words) else None

    def begins(self, many, text):
        """Whether some text begins so: it, or it with a line feed, or a nought and a line feed, behind it."""
        return any(self.plain(many, text + more) is not None for more in ("", "\n", "0\n"))

    def check(self, many, texts):
        return check_faults(self, (many,), texts, runs_text_fault, read_runs, runs_text, BadRunsText,
                            lambda text: self.begins(many, text), lambda text: self.plain(many, text) is not None)

    def test_all_small_texts(self):
        texts = [""]
        for _ in range(5):
            texts += [text + sign for text in texts if len(text) == len(texts[-1]) for sign in "012 \n"]
        for many in (0, 1, 2, 3, 12, 10 ** 4000):
            met = self.check(many, texts)
            self.assertTrue(met[True] > 0 and met[False] > 100)

    def test_changed_texts(self):
        for seed in range(1500):
            rng = maker(seed)
            many = rng.choice([3, 9, 10, 11, 100, 10 ** 9])
            runs = [rng.randrange(many) for _ in range(rng.randint(0, 6))]
            text = runs_text(many, runs)
            self.assertEqual(read_runs(many, text), runs)
            self.check(many, [one_changed(text, seed, SIGNS)])

    def test_edges(self):
        self.assertEqual((runs_text(0, []), read_runs(0, "\n"), runs_text(3, (0, 2, 0))), ("\n", [], "0 2 0\n"))
        for many, text, fault in [
                (3, "", (1, 1)), (3, "0", (1, 2)), (3, "3", (1, 1)), (3, "0 ", (1, 3)), (3, " 0\n", (1, 1)),
                (3, "0 \n", (1, 3)),
                (3, "\n\n", (2, 1)), (3, "0\n0", (2, 1)), (13, "12", (1, 3)), (13, "13\n", (1, 2)), (13, "01", (1, 2)),
                (10 ** 20, "123456789\n", None), (10 ** 20, "1234567890\n", (1, 10)), (0, "0", (1, 1)),
                (1, "0 0  ", (1, 5)),
                (3, "0\u0661", (1, 2)), (3, "1\r\n", (1, 2))]:
            self.assertEqual(runs_text_fault(many, text), fault)
        self.no_strings(runs_text_fault, 3)

    def test_wrong_things(self):
        for many in (None, -1, True, "3", 3.0, [3], Strange()):
            for function in (runs_text, read_runs, runs_text_fault):
                with self.assertRaises(BadMany) as caught:
                    function(many, None)
                self.assertIs(caught.exception.many, many)
        for runs in (None, "0", [3], [-1], [True], [0, "1"], {}, [Strange()]):
            with self.assertRaises(BadRuns) as caught:
                runs_text(3, runs)
            self.assertIs(caught.exception.runs, runs)


class MeaningTextTest(Texts):
    def plain(self, web, text):
        if text == "\n" and not web:
            return []
        words = text[:-1].split(" ")
        if not text.endswith("\n") or "\n" in text[:-1] or len(words) != len(web):
            return None
        meaning = []
        for word in words:
            if word not in ("yes", "no") and not FIGURES.match(word):
                return None
            meaning.append(word == "yes" if word in ("yes", "no") else int(word))
        return meaning if is_meaning(web, meaning) else None

    def begins(self, web, text):
        """Whether the pieces that are whole, and some one that begins as the last one does, are right."""
        if text.endswith("\n"):
            return self.plain(web, text) is not None
        words = text.split(" ")
        ahead = self.plain(web[:len(words) - 1], " ".join(words[:-1]) + "\n")
        if ahead is None or len(words) > len(web):
            return text == ""
        choices = {"yes", "no", *figures_from(words[-1] or "7"), *(str(one) for one in ahead)}
        return any(one.startswith(words[-1]) and self.plain(web[:len(words)],
                                                            " ".join(words[:-1] + [one]) + "\n") is not None
                   for one in choices)

    def check(self, web, texts):
        return check_faults(self, (web,), texts, meaning_text_fault, read_meaning, meaning_text, BadMeaningText,
                            lambda text: self.begins(web, text), lambda text: self.plain(web, text) is not None,
                            lambda meaning: self.assertIs(is_meaning(web, meaning), True))

    def test_small_texts(self):
        texts = [meaning_text(WEB, free_meaning(WEB, choices)) for choices in choice_lists(WEB)]
        met = self.check(WEB, all_next_signs(texts + ["10 100 yes 10 5 5 10 5 yes 5\n"], SIGNS))
        self.assertGreater(min(met.values()), 3)

    def test_changed_texts(self):
        met = {True: 0, False: 0}
        for seed in range(1500):
            rng = maker(seed)
            web = a_web(seed, rows=1 + seed % 7)
            walk = rng.choice(choice_lists(web))
            meaning = free_meaning(web, walk)
            more = rng.choice([0, 9, 10 ** 8])
            meaning = [one if isinstance(one, bool) else one + more for one in meaning]
            text = meaning_text(web, meaning)
            self.assertEqual(read_meaning(web, text), meaning)
            found = self.check(web, [one_changed(text, seed, SIGNS)])
            met = {word: met[word] + found[word] for word in met}
        self.assertGreater(min(met.values()), 50)

    def test_edges(self):
        self.assertEqual((meaning_text([], []), read_meaning([], "\n")), ("\n", []))
        for web, text, fault in [
                (WEB, "0 0 no 1", (1, 8)), (WEB, "0 1 no 1 2 3 2 2 yes 3", (1, 23)),
                (WEB, "0 1 no 1 2 3 2 2 yes 3 ", (1, 23)),
                (WEB, "0 1 no 1 2 3 2 2 yes 3\n\n", (2, 1)), (WEB, "0 1 maybe", (1, 5)), (WEB, "0 1 ye s", (1, 7)),
                (WEB, "0 1 yes 1", (1, 9)), (WEB, "0 1 yes 0 2 2 2 2 no", (1, 19)), (WEB, "0 1\n", (1, 4)),
                (WEB, "", (1, 1)), (WEB, "1234567890", (1, 10)), (WEB, "00", (1, 2)), (WEB, "yes", (1, 1)),
                ([], "", (1, 1)),
                ([], "0", (1, 1)), ([], "\n\n", (2, 1)), ([("given", 0)], "0 \n", (1, 2)),
                ([("given", 0)], "\n", (1, 1)),
                (WEB, "10 2 no 1\n", (1, 9)), (WEB, "2 10 no 1\n", (1, 10)), (WEB, "2 10 no 1 ", (1, 10))]:
            self.assertEqual(meaning_text_fault(web, text), fault, text)
        self.no_strings(meaning_text_fault, WEB)

    def test_wrong_things(self):
        for function in (meaning_text, read_meaning, meaning_text_fault):
            with self.assertRaises(BadWeb):
                function([("made", "f", (0,))], None)
        for meaning in (None, [], [0, 0, False, 1], [0, 1, 0, 1, 2, 3, 2, 2, True, 3], "0",
                        [0, 1, False, 1, 2, 3, 2, 2, True, 3, 4]):
            with self.assertRaises(BadMeaning) as caught:
                meaning_text(WEB, meaning)
            self.assertIs(caught.exception.meaning, meaning)


class CaseTextTest(Texts):
    def plain(self, web, one, other, text):
        """The tree of a text by the words of [21.6], None if it is none."""
        if not text.endswith("\n"):
            return None
        lines = text.split("\n")[:-1]

        def grown(depth):
            line = lines.pop(0) if lines else ""
            head = "." * depth + " " if depth else ""
            if line == head + "like":
                return ("like",)
            word, _, row = line[len(head):].partition(" ")
            if not line.startswith(head + "asked ") or not FIGURES.match(row):
                raise ValueError
            no = grown(depth + 1)
            return (word, int(row), no, grown(depth + 1))

        try:
            tree = grown(0)
        except ValueError:
            return None
        return tree if not lines and is_case_tree(web, one, other, tree) else None

    def all_texts(self, web, one, other):
        """The texts of all case trees of two parts."""
        asked = [at for at, row in enumerate(web) if row[0] == "asked"]

        def all_lines(depth, left):
            head = "." * depth + " " if depth else ""
            yield head + "like\n"
            for row in left:
                rest = [at for at in left if at != row]
                subs = list(all_lines(depth + 1, rest))
                for no in subs:
                    for yes in subs:
                        yield head + "asked " + str(row) + "\n" + no + yes

        return [text for text in all_lines(0, asked) if self.plain(web, one, other, text) is not None]

    def check(self, web, one, other, texts, right):
        starts = {text[:many] for text in right for many in range(len(text) + 1)}
        return check_faults(self, (web, one, other), texts, cases_text_fault, read_cases, cases_text, BadCasesText,
                            lambda text: text in starts, lambda text: text in right,
                            lambda tree: self.assertIs(is_case_tree(web, one, other, tree), True))

    def test_all_trees(self):
        """Of small webs all case trees, all beginnings of their texts, each sign behind each."""
        met = {True: 0, False: 0}
        alike = 0
        for seed in range(150):
            web = a_web(seed, rows=8 + seed % 6, most_asked=1 + seed % 3, steps=1)
            parts = parts_of(web)
            pairs = [(one, other) for one in parts for other in parts if one < other]
            like = [pair for pair in pairs if are_alike(web, *pair)]
            rng = maker(seed)
            for one, other in rng.sample(like, min(len(like), 1)) + rng.sample(pairs, min(len(pairs), 1)):
                right = self.all_texts(web, one, other)
                self.assertEqual(right == [], not are_alike(web, one, other))
                alike += right != []
                some = rng.sample(right, min(len(right), 3))
                texts = all_next_signs(some, "aeiklsd0123. \n") or ["", "a", "l", "\n", "like\n"]
                texts = rng.sample(texts, min(len(texts), 120))
                found = self.check(web, one, other, texts + some, right)
                met = {word: met[word] + found[word] for word in met}
                if right:
                    tree = case_tree(web, one, other)
                    self.assertEqual(read_cases(web, one, other, cases_text(web, one, other, tree)), tree)
        self.assertGreater(alike, 30)
        self.assertGreater(min(met.values()), 100)

    def test_more_than_ten_rows(self):
        """Asked rows of two figures, beside others of which they begin."""
        web = [("made", "f", ()), ("asked", "t", ()), ("made", "g", ())]
        web += [("asked", "t", (at,)) for at in (0, 2)] + [("made", "h", (0,))] * 0
        web += [("made", "k", (at,)) for at in (0, 2)]
        web += [("asked", "s", (at,)) for at in (0, 2, 5, 6)] + [("either", 10, 0, 2), ("either", 1, 11, 11 - 6)]
        web += [("asked", "u", (11,)), ("asked", "u", (12,))]
        tree = ("asked", 10, ("asked", 1, ("like",), ("asked", 14, ("like",), ("like",))), ("like",))
        text = "asked 10\n. asked 1\n.. like\n.. asked 14\n... like\n... like\n. like\n"
        self.assertEqual(cases_text(web, 0, 0, tree), text)
        self.assertEqual(read_cases(web, 0, 0, text), tree)
        for text, fault in [("asked 1", (1, 8)), ("asked 12", (1, 8)), ("asked 13", (1, 8)),
                            ("asked 10\n. asked 13\n", None),
                            ("asked 10\n. asked 10\n", (2, 10)), ("asked 2", (1, 7)), ("asked 10\nlike", (2, 1)),
                            ("asked 10\n.. like", (2, 2)), ("asked 10\n.like", (2, 2)), ("asked 01", (1, 7)),
                            ("asked  1", (1, 7)),
                            ("asked\n", (1, 6)), ("like \n", (1, 5)), ("like\nlike\n", (2, 1)), ("like", (1, 5)),
                            ("", (1, 1)),
                            (" like", (1, 1)), ("asked 1 \n", (1, 8)), ("asked 1\n. like\n.  like", (3, 3))]:
            told = cases_text_fault(web, 0, 0, text)
            self.assertEqual(told, fault or (text.count("\n") + 1, 1), text)

    def test_parts_that_are_not_alike(self):
        for text in ("", "l", "like\n", "asked 2\n. like\n. like\n", "\n"):
            self.assertEqual(cases_text_fault(WEB, 7, 9, text), (1, 1))
        # Though by one truth of each test they are.
        self.assertEqual(cases_text_fault(WEB, 0, 3, "asked 2\n"), (1, 1))
        self.no_strings(cases_text_fault, WEB, 4, 7)

    def test_wrong_things(self):
        for function in (cases_text, read_cases, cases_text_fault):
            with self.assertRaises(BadWeb):
                function([("made", "f", (0,))], 0, 0, None)
            for one, other in ((2, 0), (0, 8), (10, 0), (0, True), (None, None)):
                with self.assertRaises(BadPart):
                    function(WEB, one, other, None)
        for tree in (None, ("like",), ("asked", 2), ("asked", 0, ("like",), ("like",)), "like",
                     ["asked", 8, ["like"], ["like"]]):
            with self.assertRaises(BadTree) as caught:
                cases_text(WEB, 4, 7, tree)
            self.assertIs(caught.exception.tree, tree)
        self.assertEqual(cases_text(WEB, 4, 7, ["asked", 2, ["like"], ["like"]]), "asked 2\n. like\n. like\n")


class ViewTextTest(Texts):
    def plain(self, text):
        if text and not text.endswith("\n"):
            return None
        views = []
        for line in text.split("\n")[:-1]:
            view = []
            for piece in line.split(" ") if line else []:
                name, sign, part = piece.partition("=")
                if not sign or not NAME.match(name) or (part != "*" and not FIGURES.match(part)):
                    return None
                if view and name <= view[-1][0]:
                    return None
                view.append((name, -1 if part == "*" else int(part)))
            views.append(view)
        return views

    def begins(self, text):
        head, feed, line = text.rpartition("\n")
        if self.plain(head + feed) is None:
            return False
        pieces = line.split(" ")
        ahead = " ".join(pieces[:-1])
        view = self.plain(ahead + "\n")
        if view is None or ahead == "" and len(pieces) > 1:
            return False
        last = view[0][-1][0] if ahead else ""
        ends = [""] if ahead == "" else []
        name, sign, part = pieces[-1].partition("=")
        for one in [name] if sign else names_from(name or "z", last):
            ends += [one + "=" + its for its in ["*"] + (figures_from(part or "0") if sign else [])]
        return any(one.startswith(pieces[-1]) and self.plain((ahead + " " if ahead else "") + one + "\n") is not None
                   for one in ends)

    def check(self, texts):
        return check_faults(self, (), texts, views_text_fault, read_views, views_text, BadViewsText, self.begins,
                            lambda text: self.plain(text) is not None)

    def some_views(self, seed):
        rng = maker(seed)
        names = ["a", "ab", "abc", "b", "b1", "bz", "zzzzzzzz", "zzzzzzzy", "x", "x0"]
        return [[(name, rng.choice([-1, -1, 0, 3, 10, 123456789])) for name in sorted(rng.sample(names,
                                                                                                 rng.randint(0, 3)))]
                for _ in range(rng.randint(0, 3))]

    def test_there_and_back(self):
        for seed in range(150):
            views = self.some_views(seed)
            text = views_text(views)
            self.assertEqual((read_views(text), self.plain(text)), (views, views))

    def test_small_texts(self):
        views = [[], [("x", -1)], [("b", 0), ("b1", 10)], [("zzzzzzzy", 2), ("zzzzzzzz", -1)], [("bz", -1), ("c", 12)]]
        met = self.check(all_next_signs([views_text(views), views_text(views[3:] + views[1:2])], SIGNS + "bc"))
        self.assertGreater(min(met.values()), 10)

    def test_changed_texts(self):
        met = self.check([one_changed(views_text(self.some_views(seed % 90)), seed, SIGNS) for seed in range(1500)])
        self.assertGreater(min(met.values()), 150)

    def test_edges(self):
        self.assertEqual((views_text([]), read_views(""), views_text([[]]), read_views("\n\n")),
                         ("", [], "\n", [[], []]))
        for text, fault in [
                ("x", (1, 2)), ("x=", (1, 3)), ("x=*", (1, 4)), ("x=*\n", None), ("x=* ", (1, 5)), ("x=* \n", (1, 5)),
                ("x=*0", (1, 4)), ("x=0*", (1, 4)), ("x=**", (1, 4)), ("x=-1", (1, 3)), ("x=01", (1, 4)),
                ("=", (1, 1)), (" ", (1, 1)),
                ("x=0  y=0", (1, 5)), ("x y", (1, 2)), ("x==0", (1, 3)), ("x=1234567890", (1, 12)), ("x=0 x=0", (1, 6)),
                ("x=0 w", (1, 5)), ("xz=0 x0", (1, 7)), ("zzzzzzzz=* ", (1, 11)), ("zzzzzzzz=*\na=0\n", None),
                ("x=0\n x=0", (2, 1)), ("x=0 y\n", (1, 6)), ("x=\n", (1, 3)), ("abcdefghi", (1, 9)), ("X=0", (1, 1)),
                ("x=0 x1=0\nx=0\n", None), ("x=0\r\n", (1, 4))]:
            self.assertEqual(views_text_fault(text), fault, text)
        self.no_strings(views_text_fault)

    def test_forms(self):
        for views, index in ((None, 0), ("", 0), ({}, 0), ([None], 0), ([[], "x"], 1), ([[("x", -2)]], 0),
                             ([[("x", True)]], 0),
                             ([[("x", 0), ("x", 0)]], 0), ([[], [("y", 0), ("x", 0)]], 1), ([[("X", 0)]], 0),
                             ([[("x",)]], 0),
                             ([[("x", 0, 0)]], 0), ([[5]], 0), ([[], [None]], 1), ([[("x", None)]], 0),
                             ([[("x", "0")]], 0), ([["x0"]], 0), ([[], [], 5, None], 2),
                             ([[(Strange(), 0)]], 0), ([[("x", Strange())]], 0)):
            with self.assertRaises(BadViewsForm) as caught:
                views_text(views)
            self.assertEqual(caught.exception.index, index)
        self.assertEqual(views_text(([["x", 0], ("y", -1)], ())), "x=0 y=*\n\n")


class AllByTextTest(unittest.TestCase):
    def test_rows_that_mislead(self):
        """What is judged without a search stays right by text."""
        met = 0
        for seed in range(200):
            page = Page(sound_cells(seed, cells=3, depth=seed % 2, calm=0.3))
            row = first_untrue(page)
            if row is not None:
                web, one, other, meaning = untrue_meaning(page, row)
                text = meaning_text(web, meaning)
                runs = runs_text(3, row)
                again = read_page(page_text(page))
                self.assertEqual(read_web(web_text(web)), web)
                thing = (read_runs(3, runs), read_meaning(read_web(web_text(web)), text))
                self.assertIs(is_misleading(again, thing), True)
                self.assertEqual(parting_meaning(read_web(web_text(web)), one, other), thing[1])
                met += 1
        self.assertGreater(met, 30)

    def test_what_never_comes_again(self):
        page = Page([[("set", "y", "g", ["x"])], [("set", "x", "h", ["x"])], [("copy", "z", "x")]])
        web = [("made", "f", ()), ("made", "h", (0,)), ("made", "g", (1,)), ("made", "h", (1,))]
        word, views = come_again(page, web, {"x": 3}, {"z": 1})
        self.assertEqual(word, "never")
        stand, wished = stand_text(web, {"x": 3}), stand_text(web, {"z": 1})
        text = views_text(views)
        self.assertEqual(read_views(text), views)
        again = read_web(web_text(web))
        self.assertIs(is_never(page, again, read_stand(again, stand), read_stand(again, wished), read_views(text)),
                      True)


if __name__ == "__main__":
    unittest.main()
