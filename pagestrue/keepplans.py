"""Plans of what to keep: which rows of a web are loaded, which are made."""

from pagestrue.refusals import BadLoading, BadMaking, BadPlan, BadWanted
from pagestrue.rowtables import named_rows
from pagestrue.webforms import judged_web
from pagestrue.words import first_wrong, is_list, is_number, risen_places

WORDS = ("out", "load", "make")


class Keeping:
    """A web's rows, what it costs to make and to load them, and which are wanted, all judged."""

    def __init__(self, web, making, loading, wanted):
        self.rows = judged_web(web).rows
        wrong = prices_fault(self.rows, making, False)
        if wrong is not None:
            raise BadMaking(wrong)
        wrong = prices_fault(self.rows, loading, True)
        if wrong is not None:
            raise BadLoading(wrong)
        wrong = risen_places(wanted, len(self.rows))
        if wrong is not None:
            raise BadWanted(wrong)
        self.making = making
        self.loading = loading
        self.wanted_rows = wanted

    def fault(self, thing):
        """The index of the first row at which it is no right plan, None without one."""
        if not is_list(thing):
            return 0
        for at in range(min(len(thing), len(self.rows))):
            if not self.is_right(at, thing):
                return at
        return None if len(thing) == len(self.rows) else len(self.rows)

    def is_right(self, at, plan):
        """Whether a plan that is right ahead of the row is so at it."""
        word = plan[at]
        if not isinstance(word, str) or word not in WORDS:
            return False
        if word == "out":
            return at not in self.wanted_rows
        if word == "load":
            return self.loading[at] is not None
        return all([plan[need] != "out" for need in named_rows(self.rows[at])])

    def cost(self, plan):
        """What is paid for all that is loaded and made."""
        told = 0
        for at, word in enumerate(plan):
            if word != "out":
                told += self.loading[at] if word == "load" else self.making[at]
        return told


def prices_fault(rows, thing, lets_none):
    """The index of the first thing of what are no prices of the rows, None without one."""
    if not is_list(thing):
        return 0
    wrong = first_wrong([is_number(one) or (lets_none and one is None) for one in thing])
    if wrong is not None:
        return wrong
    return None if len(thing) == len(rows) else len(rows)


def plan_fault(web, making, loading, wanted, thing):
    """None for a right plan, else the index of the first row at which it is not so."""
    return Keeping(web, making, loading, wanted).fault(thing)


def plan_price(web, making, loading, wanted, plan):
    """What is paid by a right plan."""
    keeping = Keeping(web, making, loading, wanted)
    if keeping.fault(plan) is not None:
        raise BadPlan(plan)
    return keeping.cost(plan)
