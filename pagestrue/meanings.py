"""Meanings of webs: numbers for parts, bools for tests."""

from pagestrue.errors import BadChoices
from pagestrue.webforms import judged_web
from pagestrue.words import first_wrong, is_list, is_number


def is_meaning(web, thing):
    """Whether it is a right meaning of the web."""
    return rows_fault(judged_web(web).rows, thing) is None


def meaning_fault(web, thing):
    """None for a right meaning, else the index of the first wrong row and why it is wrong."""
    return rows_fault(judged_web(web).rows, thing)


def rows_fault(rows, thing):
    """The fault of a meaning of these rows, None without one."""
    if not is_list(thing):
        return (0, "form")
    asked_for = {}
    for at, row in enumerate(rows[:len(thing)]):
        why = worth_why(row, thing[at], thing, asked_for)
        if why is not None:
            return (at, why)
    return None if len(thing) == len(rows) else ("many", len(rows))


def worth_why(row, worth, meaning, asked_for):
    """Why a row's number or bool is wrong; asked_for keeps what like rows have to have."""
    is_right = isinstance(worth, bool) if row[0] == "asked" else is_number(worth)
    if not is_right:
        return "form"
    if row[0] == "either":
        return None if worth == meaning[side_of(row, meaning)] else "side"
    if row[0] != "given":
        if asked_for.setdefault(key_of(row, meaning), worth) != worth:
            return "like"
    return None


def side_of(row, meaning):
    """The index of the side that an either is in the meaning."""
    return row[2] if meaning[row[1]] else row[3]


def key_of(row, meaning):
    """What a made or an asked row has in common with those that have to be like it."""
    return (row[0], row[1], tuple([meaning[at] for at in row[2]]))


class FreeWalk:
    """A free meaning, row by row, with the choices that it needs."""

    def __init__(self, choices):
        self.given = choices
        self.meaning = []
        self.chosen = []
        self.many = 0
        self.known = {}

    def walk(self, rows):
        """Go through all the rows; where choices lack False is chosen."""
        for row in rows:
            if row[0] == "either":
                self.meaning.append(self.meaning[side_of(row, self.meaning)])
            elif row[0] == "given":
                self.meaning.append(self.new_number())
            else:
                self.meaning.append(self.worth(row))

    def worth(self, row):
        """What a made or an asked row comes to."""
        key = key_of(row, self.meaning)
        worth = self.known.get(key)
        if worth is None:
            worth = self.new_number() if row[0] == "made" else self.next_choice()
            self.known[key] = worth
        return worth

    def new_number(self):
        """The least number that no row ahead has."""
        self.many += 1
        return self.many - 1

    def next_choice(self):
        """The next one of the choices."""
        at = len(self.chosen)
        self.chosen.append(self.given[at] if at < len(self.given) else False)
        return self.chosen[at]


def free_walk(rows, choices):
    """The walk through the rows by these choices."""
    walk = FreeWalk(choices)
    walk.walk(rows)
    return walk


def free_meaning(web, choices):
    """The free meaning of the web by the choices."""
    rows = judged_web(web).rows
    if not is_list(choices):
        raise BadChoices(0)
    wrong = first_wrong([isinstance(choice, bool) for choice in choices])
    if wrong is not None:
        raise BadChoices(wrong)
    walk = free_walk(rows, choices)
    if len(walk.chosen) > len(choices):
        raise BadChoices(len(choices))
    return walk.meaning


def free_walks(rows):
    """All free walks through the rows, their choices ascending."""
    walks = [free_walk(rows, [])]
    choices = next_choices(walks[-1].chosen)
    while choices is not None:
        walks.append(free_walk(rows, choices))
        choices = next_choices(walks[-1].chosen)
    return walks


def next_choices(chosen):
    """The least choices above these and all that begin with them, None without any."""
    last = len(chosen)
    while last > 0 and chosen[last - 1]:
        last -= 1
    return chosen[:last - 1] + [True] if last > 0 else None


def choice_lists(web):
    """The ascending list of all choices of which none lacks and none is over."""
    return [walk.chosen for walk in free_walks(judged_web(web).rows)]
