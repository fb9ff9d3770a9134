"""Errors: each keeps the very things that it was made with.

Their texts are fixed, as what is refused may be too great to be written out.
"""


class PageError(ValueError):
    """All that this package refuses."""


class BadCell(PageError):
    """What is no cell."""

    def __init__(self, cell):
        PageError.__init__(self, "this is no cell")
        self.cell = cell


class BadCells(PageError):
    """The first thing of a page that is no cell."""

    def __init__(self, index):
        PageError.__init__(self, "here stands no cell")
        self.index = index


class BadPage(PageError):
    """What is no Page."""

    def __init__(self, page):
        PageError.__init__(self, "this is no page")
        self.page = page


class BadNames(PageError):
    """What gives a page's names of values no unlike names."""

    def __init__(self, names):
        PageError.__init__(self, "these names can not be given")
        self.names = names


class BadPageText(PageError):
    """The first wrong sign of what is no page's text."""

    def __init__(self, line, sign):
        PageError.__init__(self, "this is no text of a page")
        self.line = line
        self.sign = sign


class BadName(PageError):
    """What is none of the names asked about."""

    def __init__(self, name):
        PageError.__init__(self, "this name is not asked about")
        self.name = name


class BadOtherCell(PageError):
    """The second one of two, being no cell."""

    def __init__(self, other):
        PageError.__init__(self, "the other one is no cell")
        self.other = other


class BadStand(PageError):
    """What is no stand for the web ahead of it."""

    def __init__(self, stand):
        PageError.__init__(self, "this is no stand for the web")
        self.stand = stand


class BadRuns(PageError):
    """What is no row of runs of the page's cells."""

    def __init__(self, runs):
        PageError.__init__(self, "this is no row of runs")
        self.runs = runs


class Unsound(PageError):
    """The first cell that misses in the run from the top."""

    def __init__(self, index):
        PageError.__init__(self, "this cell misses from the top")
        self.index = index


class BadTurn(PageError):
    """What is no place of a run that does not miss."""

    def __init__(self, place):
        PageError.__init__(self, "here nothing is run")
        self.place = place


class BadWeb(PageError):
    """The first thing of what is no web."""

    def __init__(self, index):
        PageError.__init__(self, "here stands no row of a web")
        self.index = index


class BadRow(PageError):
    """What could not stand behind the web."""

    def __init__(self, row):
        PageError.__init__(self, "this row can not stand here")
        self.row = row


class BadOther(PageError):
    """The first thing of another web that is none."""

    def __init__(self, index):
        PageError.__init__(self, "the other one is no web")
        self.index = index


class BadPart(PageError):
    """What is no part of the web."""

    def __init__(self, part):
        PageError.__init__(self, "this is no part of the web")
        self.part = part


class BadIts(PageError):
    """What is no part of the other web."""

    def __init__(self, its):
        PageError.__init__(self, "this is no part of the other web")
        self.its = its


class BadParts(PageError):
    """The first thing of a list that is no part."""

    def __init__(self, index):
        PageError.__init__(self, "here stands no part")
        self.index = index


class BadTruths(PageError):
    """What gives asked rows no truths."""

    def __init__(self, truths):
        PageError.__init__(self, "these are no truths of asked rows")
        self.truths = truths


class BadMeaning(PageError):
    """What is no meaning of the web."""

    def __init__(self, meaning):
        PageError.__init__(self, "this is no meaning of the web")
        self.meaning = meaning


class BadChoices(PageError):
    """The first choice that is none, or lacks."""

    def __init__(self, index):
        PageError.__init__(self, "here stands no choice")
        self.index = index


class BadWhat(PageError):
    """What is neither word for what is compared."""

    def __init__(self, what):
        PageError.__init__(self, "this is not to be compared")
        self.what = what


class HasIf(PageError):
    """The first cell with an if, where none may stand."""

    def __init__(self, index):
        PageError.__init__(self, "this cell has an if")
        self.index = index


class BadParting(PageError):
    """What is no parting of the page."""

    def __init__(self, parting):
        PageError.__init__(self, "this is no parting of the page")
        self.parting = parting


class BadPlaces(PageError):
    """The first thing of a list that is no further place."""

    def __init__(self, index):
        PageError.__init__(self, "here stands no further place")
        self.index = index


class BadPlace(PageError):
    """What is no cell's place."""

    def __init__(self, place):
        PageError.__init__(self, "this is no place of a cell")
        self.place = place


class BadPlain(PageError):
    """The first row that is asked or either."""

    def __init__(self, index):
        PageError.__init__(self, "this row is not plain")
        self.index = index


class BadWished(PageError):
    """What is no stand that can be wished for."""

    def __init__(self, wished):
        PageError.__init__(self, "this can not be wished for")
        self.wished = wished


class BadViews(PageError):
    """The first thing of a list that is no further view."""

    def __init__(self, index):
        PageError.__init__(self, "here stands no further view")
        self.index = index


class BadNumbers(PageError):
    """The first thing that is no cell's number."""

    def __init__(self, index):
        PageError.__init__(self, "here stands no number of a cell")
        self.index = index


class BadStrangers(PageError):
    """The first thing that is no further lacking number."""

    def __init__(self, index):
        PageError.__init__(self, "here stands no stranger")
        self.index = index


class BadHistory(PageError):
    """What is no history of the numbers."""

    def __init__(self, history):
        PageError.__init__(self, "this is no history")
        self.history = history


class BadAt(PageError):
    """What is no index of a thing shown."""

    def __init__(self, at):
        PageError.__init__(self, "here nothing is shown")
        self.at = at


class BadLot(PageError):
    """The first thing of a lot that is no further number."""

    def __init__(self, index):
        PageError.__init__(self, "here stands no further number")
        self.index = index


class BadValues(PageError):
    """The first thing that is no cell's list of values."""

    def __init__(self, index):
        PageError.__init__(self, "here stand no values of a cell")
        self.index = index


class BadHands(PageError):
    """The first thing that is no hand's list of places."""

    def __init__(self, index):
        PageError.__init__(self, "here stands no hand")
        self.index = index


class BadOrder(PageError):
    """The first thing that can not come in an order."""

    def __init__(self, index):
        PageError.__init__(self, "here the order goes wrong")
        self.index = index


class BadAnother(PageError):
    """What is no Page to compare with."""

    def __init__(self, another):
        PageError.__init__(self, "the other one is no page")
        self.another = another
