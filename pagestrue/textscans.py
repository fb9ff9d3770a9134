"""A page's text as it is read, line by line: what may stand where."""

from pagestrue.cellforms import DEEPEST
from pagestrue.words import begins_name, is_name

# How many words a line has at least, by its first one.
LEAST_WORDS = {"cell": 1, "set": 3, "copy": 3, "show": 2, "if": 2, "else": 1, "end": 1}


class OpenIf:
    """An if whose end has not come yet."""

    def __init__(self, lets_set):
        # None lets all names be set: only the no side of an if asks for names.
        self.lets_set = lets_set
        self.in_no = False
        self.yes_names = {}
        self.no_names = {}

    def may_set(self):
        """The names that may be set now, None for all."""
        return self.yes_names if self.in_no else self.lets_set

    def note(self, name):
        """Keep that a name is set now."""
        side = self.no_names if self.in_no else self.yes_names
        side[name] = True

    def lacking(self):
        """The names that its no side has still to set."""
        return [name for name in self.yes_names if name not in self.no_names]


class TextScan:
    """What stands behind some lines of a page's text."""

    def __init__(self):
        self.is_begun = False
        self.ifs = []

    def may_set(self):
        """The names that may be set in the next line, None for all."""
        return self.ifs[-1].may_set() if self.ifs else None

    def first_words(self):
        """With which words the next line may begin."""
        if not self.is_begun:
            return ["cell"]
        words = [] if self.ifs else ["cell", "show"]
        if self.may_set() is None or len(self.may_set()) > 0:
            words.extend(["set", "copy"])
        if len(self.ifs) < DEEPEST:
            words.append("if")
        if self.ifs and not self.ifs[-1].in_no:
            words.append("else")
        elif self.ifs and not self.ifs[-1].lacking():
            words.append("end")
        return words

    def choices(self, words, at):
        """Which words may stand at this place of a line: None for all names, [] for none."""
        if at == 0:
            return self.first_words()
        first = words[0]
        if at == 1 and first in ("set", "copy"):
            names = self.may_set()
            return None if names is None else list(names)
        if at < LEAST_WORDS[first] or first in ("set", "if"):
            return None
        return []

    def take(self, words):
        """Go on behind a right line."""
        first = words[0]
        if first == "cell":
            self.is_begun = True
        elif first == "if":
            self.ifs.append(OpenIf(self.may_set()))
        elif first == "else":
            self.ifs[-1].in_no = True
        elif first == "end":
            ended = self.ifs.pop()
            for name in list(ended.yes_names):
                self.note(name)
        elif first in ("set", "copy"):
            self.note(words[1])

    def note(self, name):
        """Keep that a name is set now, if in an if."""
        if self.ifs:
            self.ifs[-1].note(name)


def right_signs(choices, word):
    """How many signs a word has with which some choice begins."""
    many = 0
    while many < len(word) and is_beginning(choices, word[:many + 1]):
        many += 1
    return many


def is_beginning(choices, text):
    """Whether some choice begins with the text."""
    if choices is None:
        return begins_name(text)
    return any([choice.startswith(text) for choice in choices])


def is_whole(choices, word):
    """Whether the word is one of the choices."""
    return is_name(word) if choices is None else word in choices


def wrong_sign(scan, line, is_ended):
    """The first wrong sign of a line, its line feed too if it is ended, None without one."""
    words = line.split(" ")
    gone = 0
    for at, word in enumerate(words):
        choices = scan.choices(words, at)
        if choices is not None and len(choices) == 0:
            return gone
        right = right_signs(choices, word)
        is_closed = is_ended or at + 1 < len(words)
        if right < len(word) or (is_closed and not is_whole(choices, word)):
            return gone + right + 1
        gone += len(word) + 1
    if is_ended and len(words) < LEAST_WORDS[words[0]]:
        return gone
    return None


def finished_line(scan, line):
    """The words of a right line that begins with these signs."""
    words = line.split(" ")
    words[-1] = finished_word(scan.choices(words, len(words) - 1), words[-1])
    while len(words) < LEAST_WORDS[words[0]]:
        words.append(finished_word(scan.choices(words, len(words)), ""))
    return words


def finished_word(choices, beginning):
    """A word that may stand here and begins so."""
    if choices is None:
        return beginning if beginning else "a"
    return [choice for choice in choices if choice.startswith(beginning)][0]


def next_words(scan):
    """The words of a line that brings the innermost open if nearer to its end."""
    inner = scan.ifs[-1]
    if not inner.in_no:
        return ["else"]
    lacking = inner.lacking()
    return ["copy", lacking[0], lacking[0]] if lacking else ["end"]
