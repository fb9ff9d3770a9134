"""Webs as text: written, read, and where a text first goes wrong."""

from pagestrue.refusals import BadWebText
from pagestrue.signscans import scan_fault, whole_lines
from pagestrue.webforms import judged_web
from pagestrue.webscans import WebScan, row_of_words


def web_text(web):
    """The web as lines of words."""
    return "".join([" ".join(words_of_row(row)) + "\n" for row in judged_web(web).rows])


def words_of_row(row):
    """The words of a row's line."""
    if row[0] in ("made", "asked"):
        return [row[0], row[1]] + [str(at) for at in row[2]]
    return [row[0]] + [str(at) for at in row[1:]]


def read_web(text):
    """The web with just this text."""
    fault = web_text_fault(text)
    if fault is not None:
        raise BadWebText(fault[0], fault[1])
    return [row_of_words(words) for words in whole_lines(text)]


def web_text_fault(text):
    """None for a web's text, else the line and the sign where it first goes wrong."""
    return scan_fault(WebScan(), text)
