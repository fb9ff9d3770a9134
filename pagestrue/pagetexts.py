"""Pages as text: written, read, and where a text first goes wrong."""

from pagestrue.errors import BadPageText
from pagestrue.pages import Page, judged_page
from pagestrue.textscans import TextScan, finished_line, next_words, wrong_sign


def page_text(page):
    """The page as lines of words."""
    lines = []
    for form in judged_page(page):
        lines.append(["cell"])
        note_lines(form, lines)
    return "".join([line_text(words) for words in lines])


def note_lines(form, lines):
    """Put the lines of the statements behind the lines."""
    for statement in form:
        word = statement[0]
        if word == "set":
            lines.append(list(statement[:3]) + list(statement[3]))
        elif word == "if":
            lines.append(["if", statement[1]] + list(statement[2]))
            note_lines(statement[3], lines)
            lines.append(["else"])
            note_lines(statement[4], lines)
            lines.append(["end"])
        else:
            lines.append(list(statement))


def line_text(words):
    """The words as a line."""
    return " ".join(words) + "\n"


def scanned_text(text):
    """The pair of what stands behind the right whole lines, and the first wrong sign or None."""
    scan = TextScan()
    lines = text.split("\n")
    for at, line in enumerate(lines[:-1]):
        sign = wrong_sign(scan, line, True)
        if sign is not None:
            return (scan, (at + 1, sign))
        scan.take(line.split(" "))
    sign = wrong_sign(scan, lines[-1], False)
    return (scan, None if sign is None else (len(lines), sign))


def page_fault(text):
    """None for a page's text, else the line and the sign where it first goes wrong."""
    if not isinstance(text, str):
        return (0, 0)
    scan, fault = scanned_text(text)
    if fault is not None:
        return fault
    lines = text.split("\n")
    if lines[-1] == "" and not scan.ifs:
        return None
    return (len(lines), len(lines[-1]) + 1)


def whole_text(text):
    """A page's text that begins with this one, None if there is none."""
    if not isinstance(text, str):
        return None
    scan, fault = scanned_text(text)
    if fault is not None:
        return None
    head, feed, tail = text.rpartition("\n")
    pieces = [head + feed]
    if tail:
        words = finished_line(scan, tail)
        pieces.append(line_text(words))
        scan.take(words)
    while scan.ifs:
        words = next_words(scan)
        pieces.append(line_text(words))
        scan.take(words)
    return "".join(pieces)


def read_page(text):
    """The page with just this text."""
    fault = page_fault(text)
    if fault is not None:
        raise BadPageText(fault[0], fault[1])
    cells = []
    here = cells
    around = []
    for line in text.split("\n")[:-1]:
        words = line.split(" ")
        if words[0] == "cell":
            here = []
            cells.append(here)
        elif words[0] == "else":
            here = around[-1][-1][4]
        elif words[0] == "end":
            here = around.pop()
        else:
            here.append(read_statement(words))
        if words[0] == "if":
            around.append(here)
            here = here[-1][3]
    return Page(cells)


def read_statement(words):
    """The statement of a line, of an if with empty sides."""
    if words[0] == "set":
        return ("set", words[1], words[2], words[3:])
    if words[0] == "if":
        return ("if", words[1], words[2:], [], [])
    return tuple(words)
