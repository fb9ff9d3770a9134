"""Least lots: ascending lists of places of which none stands within another one."""

from itertools import combinations


def least_lots(many, suits):
    """The ascending list of the lots of so many places that suit and have no other one within."""
    found = []
    for size in range(many + 1):
        for lot in combinations(range(many), size):
            if not has_within(found, lot) and suits(lot):
                found.append(list(lot))
    return sorted(found)


def has_within(lots, lot):
    """Whether one of the lots stands within this one."""
    return any([all([place in lot for place in least]) for least in lots])
