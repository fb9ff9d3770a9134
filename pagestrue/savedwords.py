"""What of saved values is to be doubted, and what is true in all histories that bear them."""

from itertools import combinations

from pagestrue.pastlooks import all_histories
from pagestrue.rowtables import RowTable, cone_of, led_row
from pagestrue.savedpages import bearing_of, judged_saved
from pagestrue.topruns import run_top
from pagestrue.valuelooks import first_clash, led_lots


class DoubtedLook:
    """A history's web, thinned to what its things are made of, and who clashes in it at once."""

    def __init__(self, value_of, rows, parts):
        self.value_of = value_of
        self.rows = rows
        self.parts = parts

    def bears_but(self, doubted):
        """Whether the history bears all values but those of the doubted things."""
        left = [thing for thing in self.parts if thing not in doubted]
        # Most lots of things clash where they show one part: then nothing has to be led.
        if first_clash(self.parts, left, self.value_of) is not None:
            return False
        lots = led_lots(self.rows, [(self.parts[thing], self.value_of[thing]) for thing in left])
        return first_clash({thing: lots[self.parts[thing]] for thing in left}, left, self.value_of) is None


def thinned(rows, parts):
    """Just the rows that the parts of the things need, and where these stand there."""
    table = RowTable([])
    places = {}
    for at in cone_of(rows, list(parts.values())):
        places[at] = table.put_in(led_row(rows[at], places))
    return (table.rows, {thing: places[parts[thing]] for thing in parts})


def doubted_looks(look, seen):
    """The looks at all histories, those that show the same of the same once."""
    known = {}
    for history in all_histories(look):
        rows, parts = seen.history_parts(history)
        rows, parts = thinned(rows, parts)
        key = (tuple(rows), tuple([parts[thing] for thing in seen.things]))
        if key not in known:
            known[key] = DoubtedLook(seen.value_of, rows, parts)
    return list(known.values())


def fewest_doubts(page, numbers, values):
    """The first of the shortest lists of things without whose values some history bears all others."""
    look, seen = judged_saved(page, numbers, values)
    looks = doubted_looks(look, seen)
    for many in range(len(seen.things)):
        for doubted in combinations(seen.things, many):
            if any([one.bears_but(doubted) for one in looks]):
                return list(doubted)
    return list(seen.things)


def saved_words(page, numbers, values):
    """None if no history bears the values, else for each thing "true", "untrue" or "open"."""
    look, seen = judged_saved(page, numbers, values)
    found = bearing_of(look, seen)
    if not found:
        return None
    table = RowTable([])
    tops = run_top(table, look.starting(table), look.forms)[0]
    shown = [look.shown_along(table, history)[1] for history in found]
    told = [[] for form in look.forms]
    for place, at in seen.things:
        told[place].append(word_of([one[place][at] for one in shown], tops[place][at]))
    return told


def word_of(parts, top_part):
    """The word of a thing with these parts, one for each history that bears the values."""
    many = parts.count(top_part)
    if many == len(parts):
        return "true"
    return "untrue" if many == 0 else "open"
