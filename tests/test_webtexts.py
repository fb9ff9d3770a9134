"""[21.1], [21.2], [21.3]: webs and stands as text."""

import unittest

from pagestrue.errors import BadStand, BadWeb
from pagestrue.refusals import BadStandText, BadWebText
from pagestrue.runs import is_stand
from pagestrue.standtexts import read_stand, stand_text, stand_text_fault
from pagestrue.webs import is_web, web_fault
from pagestrue.webtexts import read_web, web_text, web_text_fault
from tests.making import a_web, maker, strange_things
from tests.texting import (NAME, FIGURES, all_next_signs, check_faults, figures_from, names_from, one_changed,
                           plain_fault)

SIGNS = "abdefghimnrstvz019 \n.A-=\t"


def plain_row(line):
    """The row of a line by the words of [21.2] alone, None if it is none."""
    word, *rest = line.split(" ")
    if word in ("made", "asked") and rest and NAME.match(rest[0]) and all(FIGURES.match(one) for one in rest[1:]):
        return (word, rest[0], tuple(int(one) for one in rest[1:]))
    if word in ("given", "either") and all(FIGURES.match(one) for one in rest):
        if len(rest) == (1 if word == "given" else 3):
            return (word, *map(int, rest))
    return None


def plain_web(text):
    """The web of a text, None if it is none."""
    if text and not text.endswith("\n"):
        return None
    rows = [plain_row(line) for line in text.split("\n")[:-1]]
    return rows if None not in rows and is_web(rows) else None


def all_lines(rows, line):
    """Some lines that begin so, those that can most likely come, rows unlike those ahead among them."""
    parts = [str(at) for at, row in enumerate(rows) if row[0] != "asked"]
    asked = [str(at) for at, row in enumerate(rows) if row[0] == "asked"]
    words = line.split(" ")
    for word in ("made", "asked"):
        if not word.startswith(words[0]):
            continue
        steps = words[1:2] if len(words) > 2 else names_from(words[1] if len(words) > 1 else "")
        ends = [""] if len(words) < 3 else [" " + part for part in parts if part.startswith(words[-1])]
        head = "".join(" " + one for one in words[2:-1])
        for step in steps or ["a"]:
            for end in ends:
                for more in ["", *(" " + one for one in parts),
                             *(" " + one + " " + other for one in parts for other in parts)]:
                    yield word + " " + step + head + end + more
    for number in figures_from(words[1] if len(words) > 1 else "0", 100):
        yield "given " + number
    if len(words) < 2:
        yield from ("given " + str(number) for number in range(30))
    for one in asked:
        for other in parts:
            yield from ("either " + one + " " + other + " " + further for further in parts)


def begins_web(text):
    """Whether some web's text begins so: the last line is finished in all ways."""
    head, feed, line = text.rpartition("\n")
    rows = plain_web(head + feed)
    if rows is None:
        return False
    if line == "":
        return True
    for one in all_lines(rows, line):
        if one.startswith(line):
            row = plain_row(one)
            if row is not None and web_fault(rows + [row]) is None:
                return True
    return False


class WebTextTest(unittest.TestCase):
    def check(self, texts):
        return check_faults(self, (), texts, web_text_fault, read_web, web_text, BadWebText, begins_web,
                            lambda text: plain_web(text) is not None, lambda web: self.assertTrue(is_web(web)))

    def test_there_and_back(self):
        for seed in range(200):
            web = a_web(seed, rows=12, givens=40)
            text = web_text(web)
            self.assertEqual(plain_web(text), web)
            self.assertEqual(read_web(text), web)
            self.assertIsNone(web_text_fault(text))
            self.assertTrue(all(type(row) is tuple for row in read_web(text)))

    def test_small_texts(self):
        """All beginnings of small webs' texts, with each sign behind."""
        webs = [[("made", "f", ()), ("made", "g", (0, 0)), ("asked", "t", (1,)), ("either", 2, 1, 0)],
                [("asked", "t", ()), ("asked", "t2", ()), ("given", 10), ("given", 1), ("either", 0, 3, 2),
                 ("either", 1, 3, 2)],
                [("given", 0), ("asked", "a", (0,)), ("made", "abcdefgh", ()), ("either", 1, 0, 2),
                 ("either", 1, 0, 3)],
                [("made", "made", ()), ("asked", "asked", (0,)), ("given", 5), ("given", 123456789)]]
        met = self.check(all_next_signs([web_text(web) for web in webs], SIGNS))
        self.assertGreater(min(met.values()), 15)

    def test_more_than_ten_rows(self):
        """Indexes of two figures, of which the first ones are none, or are it already."""
        web = [("made", "f", ()), ("asked", "t", ()), ("asked", "s", ())]
        web += [("made", "g", (at,)) for at in (0, 3, 4, 5, 6, 7, 8, 9)]
        web += [("asked", "u", (10,)), ("made", "k", (10, 9)), ("either", 11, 10, 0), ("either", 1, 12, 13)]
        text = web_text(web)
        self.check([text + more for more in (
            "either 1 1", "either 1 10 1", "either 1 12 1", "either 1 12 13\n", "either 1 12 13 ", "either 11 10 0",
            "either 1 0 0", "either 2 0 0", "made g 1\n", "made g 1 ", "made g 12 1\n", "made g 15", "made g 14\n",
            "asked t\n", "asked t \n", "asked t 1\n", "asked u 10\n", "asked u 10 10\n", "either 1\n", "either 1 0\n",
            "either 10 ", "either 12", "either 2 10 10", "either 2 10 1\n", "either 2 10 1 ", "made g 0 0 0 0 0 0\n",
            "made g 01", "made g  0", "made g 0 \n", "made  g", "made \n", "made\n", "given \n", "given 01",
            "given 1 ")])

    def test_one_side_twice(self):
        """The other side is the one side's index so far, but might go on to another one."""
        web = [("given", at) for at in range(10)] + [("asked", "t", ()), ("made", "f", ()), ("made", "g", ())]
        text = web_text(web)
        self.check([text + more for more in ("either 10 1 1\n", "either 10 1 1", "either 10 1 11\n", "either 10 1 12",
                                             "either 10 11 1\n", "either 10 11 11", "either 10 2 2", "either 1\n",
                                             "either 10 1 11\neither 10 1 1", "either 10 1 11\neither 10 1 11",
                                             "either 10 1 11\neither 10 1 12\neither 10 1 13\neither 10 1 1",
                                             "either 10 1 2\neither 10 1 2", "made f 10\n", "made f 13", "made f 1\n")])

    def test_changed_texts(self):
        texts = [one_changed(web_text(a_web(seed % 60, rows=3 + seed % 10, givens=12)), seed,
                             SIGNS) for seed in range(700)]
        met = self.check(texts)
        self.assertGreater(min(met.values()), 40)

    def test_rows_that_stood_ahead(self):
        for text, fault in [
                ("made f\nmade f\n", (2, 7)), ("made f\nmade f", (2, 7)), ("asked t\nasked t\n", (2, 8)),
                ("asked abcdefgh\nasked abcdefgh", (2, 14)), ("asked abcdefgh\nasked abcdefg", (2, 14)),
                ("asked abcdefgh\nasked abcdefg\nasked abcdefg\n", (3, 14)),
                ("given 0\nasked abcdefgh\nasked abcdefgh\n", (3, 15)),
                ("given 0\nmade abcdefgh\nmade abcdefgh ", (3, 15)),
                ("given 0\ngiven 0", (2, 7)), ("given 5\ngiven 5\n", (2, 8)), ("given 5\ngiven 5", (2, 8)),
                ("given 123456789\ngiven 123456789", (2, 15)),
                ("given 12345678\ngiven 123456780\ngiven 12345678\n", (3, 15)),
                ("given 1234567890", (1, 16)), ("made f\nmade g\nasked t\neither 2 0 1\neither 2 0 1", (5, 12)),
                ("made f\nmade g\nasked t\neither 2 0 1\neither 2 0 3\n", None),
                ("made f\nasked t\neither", (3, 1)), ("made f\ngiven 3\neither", (3, 1)),
                ("asked t\nasked s\neither", (3, 1)),
                ("asked t 0", (1, 8)), ("asked t\nmade f 0", (2, 7)), ("made f\nmade f 0 0\nmade f 0 0\n", (3, 11))]:
            self.assertEqual(web_text_fault(text), fault, text)
            self.assertEqual(plain_fault(text, begins_web, lambda one: plain_web(one) is not None), fault, text)

    def test_all_numbers_of_a_beginning(self):
        """All eleven given numbers of eight figures and more stand ahead: then none can come that begins so."""
        rows = [("given", 12345678)] + [("given", 123456780 + more) for more in range(10)]
        text = web_text(rows)
        self.assertEqual(web_text_fault(text + "given 1234567\n"), None)
        self.assertEqual(web_text_fault(text + "given 12345678"), (12, 14))
        self.assertEqual(web_text_fault(web_text(rows[:10]) + "given 12345678"), (11, 15))
        self.assertEqual(web_text_fault(web_text(rows[1:]) + "given 12345678\n"), None)
        tests = ["abcdefg"] + ["abcdefg" + sign for sign in "abcdefghijklmnopqrstuvwxyz0123456789"]
        text = web_text([("asked", name, ()) for name in tests])
        self.assertEqual(web_text_fault(text + "asked abcdefg"), (38, 13))
        self.assertEqual(web_text_fault(text + "asked abcdef\n"), None)
        self.assertEqual(web_text_fault(text + "made abcdefg\nasked abcdefg 37\n"), None)
        self.assertEqual(web_text_fault(text[len("asked abcdefg\n"):] + "asked abcdefg\n"), None)

    def test_edges(self):
        self.assertEqual((read_web(""), web_text([]), web_text_fault("")), ([], "", None))
        for thing in strange_things():
            if not isinstance(thing, str):
                self.assertEqual(web_text_fault(thing), (0, 0))
        for text, fault in [("made f", (1, 7)), ("\n", (1, 1)), ("made f\n\n", (2, 1)), ("made  f", (1, 6)),
                            ("made f\r\n", (1, 7)), ("made \u00e4\n", (1, 6)), ("made f \n", (1, 7)),
                            (" made f", (1, 1)),
                            ("made f\nmade g 0 \n", (2, 10)), ("made F\n", (1, 6)), ("Made", (1, 1)), ("made", (1, 5)),
                            ("asked t\nmade f\nmade g 0", (3, 8)), ("made f\nasked t 0\nmade g 1\n", (3, 8))]:
            self.assertEqual(web_text_fault(text), fault, text)
            with self.assertRaises(BadWebText) as caught:
                read_web(text)
            self.assertEqual((caught.exception.line, caught.exception.sign), fault)
        for web, index in ((None, 0), ([("made", "f", ()), ("made", "f", ())], 1)):
            with self.assertRaises(BadWeb) as caught:
                web_text(web)
            self.assertEqual(caught.exception.index, index)


WEB = [("given", 3), ("asked", "t", (0,)), *(("made", "f", (at,)) for at in (0, 2, 3, 4, 5, 6, 7, 8, 9))]
PARTS = ["0", "2", "3", "4", "5", "6", "7", "8", "9", "10"]


def plain_stand(web, text):
    """The stand of a text by the words of [21.3], None if it is none."""
    if text and not text.endswith("\n"):
        return None
    stand = {}
    for line in text.split("\n")[:-1]:
        words = line.split(" ")
        if len(words) != 2 or not NAME.match(words[0]) or not FIGURES.match(words[1]):
            return None
        if stand and words[0] <= max(stand):
            return None
        stand[words[0]] = int(words[1])
    return stand if is_stand(web, stand) else None


def begins_stand(web, text):
    head, feed, line = text.rpartition("\n")
    stand = plain_stand(web, head + feed)
    if stand is None:
        return False
    words = line.split(" ")
    names = words[:1] if len(words) > 1 else names_from(words[0], max(stand, default=""))
    parts = [str(at) for at, row in enumerate(web) if row[0] != "asked"]
    return line == "" or any(plain_stand(web, head + feed + name + " " + part + "\n") is not None
                             for name in names for part in parts if (name + " " + part + "\n").startswith(line))


class StandTextTest(unittest.TestCase):
    def check(self, web, texts):
        return check_faults(self, (web,), texts, stand_text_fault, read_stand, stand_text, BadStandText,
                            lambda text: begins_stand(web, text), lambda text: plain_stand(web, text) is not None,
                            lambda stand: self.assertEqual(list(stand), sorted(stand)))

    def some_stand(self, seed):
        rng = maker(seed)
        names = rng.sample(["a", "ab", "abc", "b", "b1", "bz", "zzzzzzzz", "zzzzzzzy", "x", "x0", "a0"],
                           rng.randint(0, 4))
        return {name: int(rng.choice(PARTS)) for name in names}

    def test_there_and_back(self):
        for seed in range(150):
            stand = self.some_stand(seed)
            text = stand_text(WEB, stand)
            self.assertEqual(read_stand(WEB, text), stand)
            self.assertEqual(plain_stand(WEB, text), stand)

    def test_small_texts(self):
        stands = [{"b": 0, "b1": 10}, {"bz": 2, "c": 3}, {"zzzzzzzy": 0, "zzzzzzzz": 0}, {"az9": 4, "azz": 5}]
        met = self.check(WEB, all_next_signs([stand_text(WEB, stand) for stand in stands], SIGNS))
        self.assertGreater(min(met.values()), 8)

    def test_changed_texts(self):
        texts = [one_changed(stand_text(WEB, self.some_stand(seed % 70)), seed, SIGNS) for seed in range(800)]
        met = self.check(WEB, texts)
        self.assertGreater(min(met.values()), 40)

    def test_edges(self):
        self.assertEqual((stand_text([], {}), read_stand([], ""), stand_text_fault([], "")), ("", {}, None))
        self.check([], ["", "a", "\n", "a 0\n"])
        self.check([("asked", "t", ())], ["a", "a 0", ""])
        for text, fault in [("b 0\na", (2, 1)), ("b 0\nb ", (2, 2)), ("b 0\nb1", (2, 3)), ("bz 0\nb0", (2, 2)),
                            ("zzzzzzzz 0\nz", (2, 1)), ("zzzzzzzz 0\n", None), ("b 1\n", (1, 4)), ("b 1", (1, 4)),
                            ("b 11", (1, 4)), ("b 10", (1, 5)), ("b 10\n\n", (2, 1)), ("b\n", (1, 2)), ("b 00", (1, 4)),
                            ("b  0", (1, 3)), ("b 0 ", (1, 4)), ("abcdefghi", (1, 9)), ("b 0\nb 0\n", (2, 2)),
                            ("abcdefgh 0\nabcdefgh", (2, 8)), ("abcdefgz 0\nabcdefgz", (2, 7)), ("\u00e4", (1, 1))]:
            self.assertEqual(stand_text_fault(WEB, text), fault, text)
        self.check(WEB, ["abcdefgh 0\nabcdefgh", "abcdefgz 0\nabcdefgz", "abcdefzz 0\nabcdefz", "zz 0\nzz"])
        for thing in strange_things():
            if not isinstance(thing, str):
                self.assertEqual(stand_text_fault(WEB, thing), (0, 0))

    def test_wrong_things(self):
        for function, more in ((stand_text, (None,)), (read_stand, (None,)), (stand_text_fault, (None,))):
            with self.assertRaises(BadWeb):
                function([("made", "f", (0,))], *more)
        for stand in (None, {"a": 1}, {"a": True}, {"A": 0}, []):
            with self.assertRaises(BadStand) as caught:
                stand_text(WEB, stand)
            self.assertIs(caught.exception.stand, stand)


if __name__ == "__main__":
    unittest.main()
