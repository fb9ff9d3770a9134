"""Texts judged plainly: which texts are read and begin so, by listing what can stand in each line."""

import re

from tests.making import maker

NAME_SIGNS = "abcdefghijklmnopqrstuvwxyz0123456789"
NAME = re.compile(r"[a-z][a-z0-9]{0,7}\Z")
FIGURES = re.compile(r"(0|[1-9][0-9]{0,8})\Z")


def spot(text, at):
    """The line and the sign of the sign with this index, or of the place behind all."""
    return (text.count("\n", 0, at) + 1, at - (text.rfind("\n", 0, at) + 1) + 1)


def plain_fault(text, begins, is_read):
    """The fault of a text, sign by sign: begins tells whether some text that is read begins so."""
    for many in range(1, len(text) + 1):
        if not begins(text[:many]):
            return spot(text, many - 1)
    return None if is_read(text) else spot(text, len(text))


def names_from(text, last=""):
    """Some names that begin with the text and are above the last one, the greatest one among them."""
    told = [text] + [text + sign for sign in NAME_SIGNS] + [text + "z" * (8 - len(text))]
    return [name for name in told if NAME.match(name) and name > last]


def figures_from(text, many=10):
    """Some numbers' texts that begin with the text."""
    return [one for one in [text] + [text + str(more) for more in range(many)] if FIGURES.match(one)]


def one_changed(text, seed, signs):
    """The text with a sign put in, taken out or exchanged somewhere, or cut there."""
    rng = maker(seed)
    at = rng.randrange(len(text) + 1)
    kind = rng.randrange(4)
    put = rng.choice(signs) if kind < 3 else ""
    return text[:at] + put + text[(len(text) if kind == 2 and rng.random() < 0.5 else at + kind % 2):]


def check_faults(test, passed, texts, fault, read, write, raised, begins, is_read, take=None):
    """Hold what is told of each text against the plain search: its fault, what raises, what is read."""
    met = {True: 0, False: 0}
    for text in texts:
        mine = plain_fault(text, begins, is_read)
        test.assertEqual(fault(*passed, text), mine, text)
        met[mine is None] += 1
        if mine is None:
            told = read(*passed, text)
            test.assertEqual(write(*passed, told), text)
            if take is not None:
                take(told)
        else:
            with test.assertRaises(raised) as caught:
                read(*passed, text)
            test.assertEqual((caught.exception.line, caught.exception.sign), mine)
    return met


def all_next_signs(texts, signs):
    """All beginnings of the texts, with each sign behind each."""
    told = {}
    for text in texts:
        for many in range(len(text) + 1):
            for sign in signs:
                told[text[:many] + sign] = True
            told[text[:many]] = True
    return list(told)
