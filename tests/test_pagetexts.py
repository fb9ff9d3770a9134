"""[3.3], [3.4]: pages as text."""

import unittest

from pagestrue.errors import BadPageText
from pagestrue.pages import Page, is_cell
from pagestrue.pagetexts import page_fault, page_text, read_page, whole_text
from tests.making import any_cells, maker, strange_things

SIGNS = "abcdefghijklmnopqrstuvwxyz0123456789 \n.A\t\r"


def plain_cells(text):
    """The cells of a text by the words of [3.3] alone, None if they are none."""
    if text and not text.endswith("\n"):
        return None
    cells = []
    stack = []
    for line in text.split("\n")[:-1]:
        words = line.split(" ")
        place = stack[-1][1] if stack else (cells[-1] if cells else None)
        if words == ["cell"] and not stack:
            cells.append([])
        elif place is None:
            return None
        elif words[0] == "set" and len(words) >= 3:
            place.append(("set", words[1], words[2], words[3:]))
        elif words[0] == "copy" and len(words) == 3 or words[0] == "show" and len(words) == 2:
            place.append(tuple(words))
        elif words[0] == "if" and len(words) >= 2:
            place.append(("if", words[1], words[2:], [], []))
            stack.append((place[-1], place[-1][3]))
        elif words == ["else"] and stack and stack[-1][1] is stack[-1][0][3]:
            stack[-1] = (stack[-1][0], stack[-1][0][4])
        elif words == ["end"] and stack and stack[-1][1] is stack[-1][0][4]:
            stack.pop()
        else:
            return None
    return None if stack or not all(is_cell(cell) for cell in cells) else cells


def spot(text, at):
    """The line and the sign of the sign with this index, or of the place behind all."""
    return (text.count("\n", 0, at) + 1, at - (text.rfind("\n", 0, at) + 1) + 1)


class TextTest(unittest.TestCase):
    def test_no_cells_and_empty_ones(self):
        self.assertEqual(page_text(Page([])), "")
        self.assertEqual(page_text(Page([[], []])), "cell\ncell\n")
        self.assertEqual(read_page(""), Page([]))
        self.assertEqual(read_page("cell\n"), Page([[]]))

    def test_words_by_their_places(self):
        text = "cell\nset end end end else\nif else if\ncopy cell show\nelse\nset cell set\nend\nshow end\n"
        self.assertEqual(read_page(text).cells(), [[
            ("set", "end", "end", ["end", "else"]),
            ("if", "else", ["if"], [("copy", "cell", "show")], [("set", "cell", "set", [])]),
            ("show", "end")]])

    def test_there_and_back(self):
        for seed in range(150):
            page = Page(any_cells(seed, depth=3, many=3, values=8, steps=4, tests=4))
            text = page_text(page)
            self.assertEqual(read_page(text), page)
            self.assertEqual(plain_cells(text), page.cells())
            self.assertIsNone(page_fault(text))
            self.assertEqual(whole_text(text), text)


class FaultTest(unittest.TestCase):
    def test_no_strings(self):
        for thing in strange_things():
            if not isinstance(thing, str):
                self.assertEqual(page_fault(thing), (0, 0))
                self.assertIsNone(whole_text(thing))

    def test_faults(self):
        for text, fault in [
                ("cell", (1, 5)), ("c", (1, 2)), ("d", (1, 1)), ("\n", (1, 1)), ("set x f\n", (1, 1)),
                ("cell\n\n", (2, 1)), ("cell\n ", (2, 1)), ("cell \n", (1, 5)), ("cell\ncells", (2, 5)),
                ("cell\nset x\n", (2, 6)), ("cell\nset x f \n", (2, 9)), ("cell\nset  x f\n", (2, 5)),
                ("cell\nset x f", (2, 8)), ("cell\nset X f\n", (2, 5)), ("cell\nset 1", (2, 5)),
                ("cell\nset abcdefgh f\nset abcdefghi f\n", (3, 13)), ("cell\ncopy x\n", (2, 7)),
                ("cell\ncopy x y z", (2, 9)), ("cell\nshow x y", (2, 7)), ("cell\nshow \n", (2, 6)),
                ("cell\nend\n", (2, 1)), ("cell\nelse\n", (2, 1)), ("cell\nif\n", (2, 3)),
                ("cell\nif t\n", (3, 1)), ("cell\nif t\nend", (3, 2)), ("cell\nif t\nshow", (3, 2)),
                ("cell\nif t\ncell", (3, 2)), ("cell\nif t\nelse\nelse", (4, 2)),
                ("cell\nif t\nelse\nset", (4, 1)), ("cell\nif t\nelse\ncopy", (4, 1)),
                ("cell\nif t\nelse\nend\nelse", (5, 1)), ("cell\nif t\nelse\nend x", (4, 4)),
                ("cell\nif t\nset ab f\nset ac f\nelse\nset ad", (6, 6)),
                ("cell\nif t\nset ab f\nset abc f\nelse\nset ab f\nset abd", (7, 7)),
                ("cell\nif t\nset ab f\nset abc f\nelse\nset abcd", (6, 8)),
                ("cell\nif t\nset abc f\nelse\nset ab f", (5, 7)),
                ("cell\nif t\nset x f\nelse\nif s\nset y", (6, 5)),
                ("cell\nif t\nset x f\nelse\nif s\nset x f\nelse\nend", (8, 1)),
                ("cell\nif t\nset x f\nelse\nif s\nelse\nend\nend", (8, 1)),
                ("cell\nif t\nelse\nif s\nset", (5, 1)),
                ("cell\nif t\nif s\nset y f\nelse\nset x", (6, 5)),
                ("cell\nif t\nif s\nset y f\nelse\nset y f\nend\nelse\nend", (9, 1)),
                ("cell\nset x f\r\n", (2, 8)), ("cell\nset x f\u00e4", (2, 8)), ("CELL\n", (1, 1))]:
            self.assertEqual(page_fault(text), fault, text)
            with self.assertRaises(BadPageText) as caught:
                read_page(text)
            self.assertEqual((caught.exception.line, caught.exception.sign), fault)

    def test_each_beginning_is_right(self):
        for seed in range(24):
            text = page_text(Page(any_cells(seed, depth=3, many=3)))
            for at in range(len(text) + 1):
                beginning = text[:at]
                fault = page_fault(beginning)
                if plain_cells(beginning) is None:
                    self.assertEqual(fault, spot(beginning, at))
                else:
                    self.assertIsNone(fault)
                self.check_whole(beginning, whole_text(beginning))

    def check_whole(self, text, whole):
        """A witness: some page has just the whole text, which begins with the text."""
        self.assertTrue(whole.startswith(text))
        cells = plain_cells(whole)
        self.assertIsNotNone(cells)
        self.assertEqual(page_text(Page(cells)), whole)

    def test_just_one(self):
        for seed in range(1500):
            rng = maker(seed)
            text = page_text(Page(any_cells(seed % 50, depth=3, many=2)))
            at = rng.randrange(len(text) + 1)
            signs = SIGNS if seed % 2 else "abcdefst \n"
            kind = rng.randrange(3)
            end = at if kind == 0 else at + 1 if kind == 1 else at + rng.randrange(9)
            text = text[:at] + (rng.choice(signs) if kind < 2 else "") + text[end:]
            fault = page_fault(text)
            whole = whole_text(text)
            if fault is None or fault == spot(text, len(text)):
                self.check_whole(text, whole)
                self.assertEqual(fault is None, plain_cells(text) is not None)
            else:
                self.assertIsNone(whole)
                self.assertIsNone(plain_cells(text))
                lines = text.split("\n")
                index = sum(len(line) + 1 for line in lines[:fault[0] - 1]) + fault[1] - 1
                self.assertLess(index, len(text))
                self.assertEqual(spot(text, index), fault)
                self.check_whole(text[:index], whole_text(text[:index]))

    def test_all_short_lines(self):
        """All beginnings of all texts of few lines, by a plain search, are right, no others."""
        lines = ["cell", "set a f", "set b f", "copy a b", "if t", "else", "end", "show a"]
        texts = [""]
        right = {""}
        for _ in range(5):
            texts = [text + line + "\n" for text in texts for line in lines
                     if self.may_go_on(text + line + "\n")]
            for text in texts:
                whole = whole_text(text)
                if whole is not None and plain_cells(whole) is not None:
                    right.update(whole[:at] for at in range(len(whole) + 1))
        for text in sorted(right)[::7]:
            for sign in "acdefhilnosbt \n":
                is_right = whole_text(text + sign) is not None
                if text + sign in right:
                    self.assertTrue(is_right)
                elif is_right:
                    self.check_whole(text + sign, whole_text(text + sign))
                else:
                    self.assertEqual(page_fault(text + sign), spot(text + sign, len(text)))

    def may_go_on(self, text):
        """Whether a line of a few kinds may stand: judged by how the ifs stand alone."""
        depth = 0
        sides = []
        for line in text.split("\n")[:-1]:
            if line == "if t":
                sides.append("yes")
            elif line in ("else", "end"):
                if not sides or (sides[-1] == "yes") != (line == "else"):
                    return False
                sides[-1] = "no"
                if line == "end":
                    sides.pop()
            elif line in ("cell", "show a") and sides:
                return False
            depth = max(depth, len(sides))
        return text.startswith("cell\n") and depth <= 2 and text.count("cell") == 1

    def test_long_texts(self):
        text = "cell\n" + "set x f x x x\n" * 700
        self.assertIsNone(page_fault(text))
        self.assertEqual(read_page(text).cells(), [[("set", "x", "f", ["x"] * 3)] * 700])
        self.assertEqual(page_fault(text + "!"), (702, 1))
        deep = "cell\n" + "if t\n" * 12 + "set x f\n" + "else\ncopy x x\nend\n" * 12
        self.assertIsNone(page_fault(deep))
        self.assertEqual(page_text(read_page(deep)), deep)
        begun = "cell\n" + "if t x y\n" * 12 + "set abcdefgh ab"
        self.assertIsNotNone(plain_cells(whole_text(begun)))


if __name__ == "__main__":
    unittest.main()
