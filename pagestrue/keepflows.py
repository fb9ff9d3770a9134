"""Flows: amounts that go along ways of rows, each needed by the one ahead."""

from pagestrue.keepplans import Keeping
from pagestrue.refusals import BadFlow
from pagestrue.rowtables import named_rows
from pagestrue.words import first_wrong, is_list, is_number, is_place


def flow_fault(web, making, loading, wanted, thing):
    """None for a flow, else the first thing that is wrong with it."""
    keeping = Keeping(web, making, loading, wanted)
    if not is_list(thing):
        return ("way", 0)
    wrong = first_wrong([is_way(keeping, one) for one in thing])
    if wrong is not None:
        return ("way", wrong)
    loaded = [0] * len(keeping.rows)
    made = [0] * len(keeping.rows)
    for amount, rows in thing:
        for at in rows:
            loaded[at] += amount
        made[rows[-1]] += amount
    return price_fault("load", loaded, keeping.loading) or price_fault("make", made, keeping.making)


def price_fault(word, sent, prices):
    """The word and the first row to which more is sent than its price, None without one."""
    wrong = first_wrong([price is None or amount <= price for amount, price in zip(sent, prices)])
    return None if wrong is None else (word, wrong)


def is_amount_pair(thing):
    """Whether it is a pair of a number above 0 and a list."""
    return is_list(thing) and len(thing) == 2 and is_number(thing[0]) and thing[0] > 0 and is_list(thing[1])


def is_way(keeping, thing):
    """Whether it is an amount, and rows of which the first one is wanted, each other one needed."""
    if not is_amount_pair(thing) or len(thing[1]) == 0:
        return False
    rows = thing[1]
    if not all([is_place(at, len(keeping.rows)) for at in rows]) or rows[0] not in keeping.wanted_rows:
        return False
    return all([need in named_rows(keeping.rows[at]) for at, need in zip(rows[:-1], rows[1:])])


def flow_sum(flow):
    """The sum of the amounts of all ways."""
    if not is_list(flow) or not all([is_amount_pair(one) for one in flow]):
        raise BadFlow(flow)
    return sum([one[0] for one in flow])
