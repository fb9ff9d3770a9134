"""Values seen under the cells of a saved page, and whether a history can have shown them."""

from pagestrue.errors import BadValues
from pagestrue.rowtables import RowTable
from pagestrue.words import are_numbers, is_list, is_place


class ValueLook:
    """The values of a page with numbers, as a dict from things to what was seen."""

    def __init__(self, look, values):
        self.look = look
        self.value_of = {(place, at): value for place, one in enumerate(values) for at, value in enumerate(one)}
        self.things = sorted(self.value_of)

    def history_parts(self, beginning):
        """The web's rows behind the beginning, and the dict from the things within it to their parts."""
        table = RowTable([])
        _, shown = self.look.shown_along(table, beginning)
        parts = {thing: shown[thing[0]][thing[1]] for thing in self.things if shown[thing[0]] is not None}
        return (table.rows, parts)

    def clash(self, beginning):
        """The first pair of things within it with unlike values and parts led together, or None."""
        rows, parts = self.history_parts(beginning)
        return first_clash(self.lots_of(rows, parts), list(parts), self.value_of)

    def lots_of(self, rows, parts):
        """For each thing the number of the lot of rows that are led together to which its part belongs."""
        lots = led_lots(rows, [(parts[thing], self.value_of[thing]) for thing in parts])
        return {thing: lots[parts[thing]] for thing in parts}

    def is_thing(self, thing):
        """Whether it is the pair of a cell's place and the index of a thing that it shows."""
        if not is_list(thing) or len(thing) != 2 or not are_numbers(thing):
            return False
        return tuple(thing) in self.value_of


def first_clash(lots, things, seen):
    """The first pair of these ascending things with unlike values in one lot, None without one."""
    for at, one in enumerate(things):
        for other in things[at + 1:]:
            if lots[one] == lots[other] and seen[one] != seen[other]:
                return (one, other)
    return None


def led_lots(rows, seen):
    """For each row the number of the lot of those that are led together, by pairs (part, value).

    Lots are numbered anew, row by row, until no number changes: rows with like steps and needs of
    like lots are in one lot, and so are all lots with parts of one value.
    """
    lots = list(range(len(rows)))
    is_more = True
    while is_more:
        joined = join_alike(lots, [(("seen", value), lots[part]) for part, value in seen])
        joined = join_alike(joined, [(made_key(row, joined), joined[at]) for at, row in enumerate(rows)
                                     if row[0] == "made"])
        is_more = joined != lots
        lots = joined
    return lots


def made_key(row, lots):
    """What made rows that are led together have in common."""
    return (row[1], tuple([lots[need] for need in row[2]]))


def join_alike(lots, pairs):
    """The lots with those joined that have a like key, in pairs (key, lot); each takes the least number."""
    least = {lot: lot for lot in lots}
    first = {}
    for key, lot in pairs:
        one = root_of(least, first.setdefault(key, lot))
        other = root_of(least, lot)
        least[max(one, other)] = min(one, other)
    return [root_of(least, lot) for lot in lots]


def root_of(least, lot):
    """The number of the lot with which it was joined in the end."""
    at = lot
    while least[at] != at:
        at = least[at]
    return at


def judged_values(look, values):
    """The look at values of the page."""
    if not is_list(values):
        raise BadValues(0)
    for at, one in enumerate(values):
        if not is_place(at, len(look.forms)) or not are_values(look, at, one):
            raise BadValues(at)
    if len(values) != len(look.forms):
        raise BadValues(len(look.forms))
    return ValueLook(look, values)


def are_values(look, place, thing):
    """Whether it is a list with a number for each thing that the cell's last run shows."""
    shows = [one for one in look.forms[place] if one[0] == "show"]
    return are_numbers(thing) and len(thing) == (len(shows) if look.lasts[place] > 0 else 0)
