"""More errors: each keeps the very things that it was made with.

Their texts are fixed, as what is refused may be too great to be written out.
"""

from pagestrue.errors import PageError


class BadK(PageError):
    """What is no number of an order that strays."""

    def __init__(self, k):
        PageError.__init__(self, "there are not so many orders")
        self.k = k


class BadFences(PageError):
    """The first thing that is no further fence."""

    def __init__(self, index):
        PageError.__init__(self, "here stands no further fence")
        self.index = index


class BadMaking(PageError):
    """The first thing that is no price to make a row."""

    def __init__(self, index):
        PageError.__init__(self, "here stands no price to make a row")
        self.index = index


class BadLoading(PageError):
    """The first thing that is no price to load a row."""

    def __init__(self, index):
        PageError.__init__(self, "here stands no price to load a row")
        self.index = index


class BadWanted(PageError):
    """The first thing of a list that is no wanted row."""

    def __init__(self, index):
        PageError.__init__(self, "here stands no wanted row")
        self.index = index


class BadPlan(PageError):
    """What is no right plan."""

    def __init__(self, plan):
        PageError.__init__(self, "this is no right plan")
        self.plan = plan


class BadFlow(PageError):
    """What is no list of amounts and ways."""

    def __init__(self, flow):
        PageError.__init__(self, "this is no flow")
        self.flow = flow


class BadIndex(PageError):
    """What is no index of a row."""

    def __init__(self, index):
        PageError.__init__(self, "this is no index of a row")
        self.index = index


class BadPrice(PageError):
    """What is no price."""

    def __init__(self, price):
        PageError.__init__(self, "this is no price")
        self.price = price


class BadPlainWeb(PageError):
    """What is no web of made rows alone."""

    def __init__(self, web):
        PageError.__init__(self, "this is no plain web")
        self.web = web


class BadScript(PageError):
    """What is no script for what is wanted."""

    def __init__(self, script):
        PageError.__init__(self, "this is no script")
        self.script = script


class BadHandCount(PageError):
    """What is no number of hands."""

    def __init__(self, hands):
        PageError.__init__(self, "there can not be so many hands")
        self.hands = hands


class BadLots(PageError):
    """What is no row of lots."""

    def __init__(self, lots):
        PageError.__init__(self, "this is no row of lots")
        self.lots = lots


class BadPair(PageError):
    """Two that are no unlike places of cells."""

    def __init__(self, one, other):
        PageError.__init__(self, "these are no two cells")
        self.one = one
        self.other = other


class BadWideCells(PageError):
    """The first thing of a wide page that is no wide cell."""

    def __init__(self, index):
        PageError.__init__(self, "here stands no wide cell")
        self.index = index


class BadWide(PageError):
    """What is no wide page."""

    def __init__(self, wide):
        PageError.__init__(self, "this is no wide page")
        self.wide = wide


class BadWideStand(PageError):
    """What is no wide stand for the web ahead of it."""

    def __init__(self, stand):
        PageError.__init__(self, "this is no wide stand")
        self.stand = stand


class BadWideCell(PageError):
    """What is no wide cell."""

    def __init__(self, cell):
        PageError.__init__(self, "this is no wide cell")
        self.cell = cell


class BadBoxCells(PageError):
    """The first thing of a page with boxes that is none of its cells."""

    def __init__(self, index):
        PageError.__init__(self, "here stands no cell with boxes")
        self.index = index


class BadBoxPage(PageError):
    """What is no page with boxes."""

    def __init__(self, boxpage):
        PageError.__init__(self, "this is no page with boxes")
        self.boxpage = boxpage


class BadStanding(PageError):
    """What is no standing of boxes."""

    def __init__(self, standing):
        PageError.__init__(self, "this is no standing")
        self.standing = standing


class BadBoxCell(PageError):
    """What is no cell with boxes."""

    def __init__(self, boxcell):
        PageError.__init__(self, "this is no cell with boxes")
        self.boxcell = boxcell


class UnsoundBoxes(PageError):
    """The first cell that misses from the top."""

    def __init__(self, index):
        PageError.__init__(self, "this cell misses from the top")
        self.index = index


class Misleads(PageError):
    """The row of runs by which a page with boxes misleads."""

    def __init__(self, row):
        PageError.__init__(self, "this page misleads")
        self.row = row


class BadOtherPage(PageError):
    """What is no page to which another one can be edited."""

    def __init__(self, other):
        PageError.__init__(self, "the other one is no such page")
        self.other = other


class BadPut(PageError):
    """What is no place for a cell."""

    def __init__(self, place):
        PageError.__init__(self, "here no cell can be put")
        self.place = place


class NoTag(PageError):
    """What is no tag of a cell that is there."""

    def __init__(self, tag):
        PageError.__init__(self, "there is no cell with this tag")
        self.tag = tag


class BadWebText(PageError):
    """The first wrong sign of what is no web's text."""

    def __init__(self, line, sign):
        PageError.__init__(self, "this is no text of a web")
        self.line = line
        self.sign = sign


class BadStandText(PageError):
    """The first wrong sign of what is no stand's text."""

    def __init__(self, line, sign):
        PageError.__init__(self, "this is no text of a stand")
        self.line = line
        self.sign = sign


class BadMany(PageError):
    """What is no number of cells."""

    def __init__(self, many):
        PageError.__init__(self, "this is no number of cells")
        self.many = many


class BadRunsText(PageError):
    """The first wrong sign of what is no text of runs."""

    def __init__(self, line, sign):
        PageError.__init__(self, "this is no text of runs")
        self.line = line
        self.sign = sign


class BadMeaningText(PageError):
    """The first wrong sign of what is no meaning's text."""

    def __init__(self, line, sign):
        PageError.__init__(self, "this is no text of a meaning")
        self.line = line
        self.sign = sign


class BadTree(PageError):
    """What is no case tree of both parts."""

    def __init__(self, tree):
        PageError.__init__(self, "this is no case tree")
        self.tree = tree


class BadCasesText(PageError):
    """The first wrong sign of what is no case tree's text."""

    def __init__(self, line, sign):
        PageError.__init__(self, "this is no text of cases")
        self.line = line
        self.sign = sign


class BadViewsForm(PageError):
    """The first thing that has not the form of a view."""

    def __init__(self, index):
        PageError.__init__(self, "here stands no view")
        self.index = index


class BadViewsText(PageError):
    """The first wrong sign of what is no text of views."""

    def __init__(self, line, sign):
        PageError.__init__(self, "this is no text of views")
        self.line = line
        self.sign = sign
