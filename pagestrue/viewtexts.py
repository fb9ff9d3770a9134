"""Views as text: written, read, and where a text first goes wrong."""

from pagestrue.refusals import BadViewsForm, BadViewsText
from pagestrue.signscans import SignScan, begins_figures, can_be_above, scan_fault, whole_lines
from pagestrue.words import begins_name, first_unrisen, first_wrong, is_list, is_name

OTHER = -1


def has_view_form(thing):
    """Whether it is a list of pairs of ascending names and integers from -1 on."""
    if not is_list(thing) or not all([is_seen_pair(one) for one in thing]):
        return False
    return first_unrisen([one[0] for one in thing]) is None


def is_seen_pair(thing):
    """Whether it is a pair of a name and an integer from -1 on."""
    if not is_list(thing) or len(thing) != 2 or not is_name(thing[0]):
        return False
    return isinstance(thing[1], int) and not isinstance(thing[1], bool) and thing[1] >= OTHER


def views_text(views):
    """The views as a line for each."""
    if not is_list(views):
        raise BadViewsForm(0)
    wrong = first_wrong([has_view_form(one) for one in views])
    if wrong is not None:
        raise BadViewsForm(wrong)
    return "".join([" ".join([seen_text(name, part) for name, part in view]) + "\n" for view in views])


def seen_text(name, part):
    """The name and its part."""
    return name + "=" + ("*" if part == OTHER else str(part))


def read_views(text):
    """The list of views with just this text."""
    fault = views_text_fault(text)
    if fault is not None:
        raise BadViewsText(fault[0], fault[1])
    return [[] if words == [""] else [seen_pair(word) for word in words] for words in whole_lines(text)]


def seen_pair(word):
    """The pair that is written so."""
    name, _, part = word.partition("=")
    return (name, OTHER if part == "*" else int(part))


def views_text_fault(text):
    """None for a text of views, else the line and the sign where it first goes wrong."""
    return scan_fault(ViewsScan(), text)


class ViewsScan(SignScan):
    """The last name of the line, and whether its part is being read."""

    def __init__(self):
        SignScan.__init__(self)
        self.last_name = ""
        self.is_named = False
        self.is_line_begun = False

    def may_begin(self, text):
        """Whether some name above the last one, or some part, begins with the text."""
        if self.is_named:
            return text == "*" or begins_figures(text)
        return begins_name(text) and can_be_above(text, self.last_name)

    def may_end(self, sign):
        """Whether the name ends with its sign here, or the part, or a line of none."""
        if self.is_named:
            if sign == " ":
                return self.piece != "" and can_be_above("", self.last_name)
            return sign == "\n" and self.piece != ""
        if sign == "\n":
            return self.piece == "" and not self.is_line_begun
        return sign == "=" and self.piece > self.last_name

    def close(self, sign):
        """Take the name, the part, or the end of the line."""
        if sign == "=":
            self.last_name = self.piece
        self.is_named = sign == "="
        self.is_line_begun = sign != "\n"
        if sign == "\n":
            self.last_name = ""

    def is_all(self):
        """Whether the last line is whole."""
        return not self.is_line_begun and self.piece == ""
