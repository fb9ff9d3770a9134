"""Plain searches: all tests' truths, all rows of runs, with values as terms.

A term is a step with the terms that it was made of: nothing here knows of webs of rows, but
what it is shown. A WORLD tells the truth of each test of terms.
"""

from itertools import product


def over_worlds(act):
    """What act(ask) tells in each world, as far as it asks: ask(test, terms) is a truth."""
    told = []
    choices = []
    while choices is not None:
        used = []
        truths = {}

        def ask(test, terms):
            key = (test, tuple(terms))
            if key not in truths:
                truths[key] = choices[len(used)] if len(used) < len(choices) else False
                used.append(truths[key])
            return truths[key]

        told.append(act(ask))
        while used and used[-1]:
            used.pop()
        choices = used[:-1] + [True] if used else None
    return told


def read_first(statement):
    """The names that a statement itself reads."""
    if statement[0] == "set":
        return statement[3]
    return statement[2] if statement[0] == "if" else statement[-1:]


def is_missed(statements, names):
    """Whether some statement, on whichever side, reads a name that does not stand there."""
    names = set(names)
    for statement in statements:
        if any(name not in names for name in read_first(statement)):
            return True
        if statement[0] == "if":
            if is_missed(statement[3], names) or is_missed(statement[4], names):
                return True
        names |= set_by([statement])
    return False


def set_by(statements):
    """The names that statements set."""
    found = set()
    for statement in statements:
        if statement[0] == "if":
            found |= set_by(statement[3])
        elif statement[0] != "show":
            found.add(statement[1])
    return found


def do_all(statements, values, shown, ask):
    """Do the statements on terms, one side of each if."""
    for statement in statements:
        word = statement[0]
        if word == "set":
            made = tuple(values[name] for name in statement[3])
            values[statement[1]] = (statement[2], made)
        elif word == "copy":
            values[statement[1]] = values[statement[2]]
        elif word == "show":
            shown.append(values[statement[1]])
        else:
            truth = ask(statement[1], [values[name] for name in statement[2]])
            do_all(statement[3 if truth else 4], values, shown, ask)


def plain_run(cell, values, ask):
    """None for a miss, else the values behind the run, what it shows, what it leaves."""
    if is_missed(cell, values):
        return None
    behind = dict(values)
    shown = []
    do_all(cell, behind, shown, ask)
    return behind, shown, {name: behind[name] for name in set_by(cell)}


def plain_go(cell, values, ask):
    """As far as it goes: how many statements, the values behind it, what it shows, leaves."""
    behind = dict(values)
    shown = []
    many = 0
    for statement in cell:
        if is_missed([statement], behind):
            break
        do_all([statement], behind, shown, ask)
        many += 1
    return many, behind, shown, {name: behind[name] for name in set_by(cell[:many])}


def plain_row(cells, runs, values, ask):
    """Of each run None or what it shows and leaves; and the values at the end."""
    told = []
    for place in runs:
        run = plain_run(cells[place], values, ask)
        if run is not None:
            values = run[0]
        told.append(None if run is None else run[1:])
    return told, values


def is_sound(cells):
    """Whether the run from the top misses nowhere."""
    return None not in plain_row(cells, range(len(cells)), {}, lambda test, terms: False)[0]


def is_row_untrue(cells, runs, from_top):
    """Whether, from nothing or behind the top, the last run of the row is untrue."""
    def act(ask):
        top, values = plain_row(cells, range(len(cells)), {}, ask)
        told, _ = plain_row(cells, runs, values if from_top else {}, ask)
        return told[-1] is not None and told[-1] != top[runs[-1]]
    return any(over_worlds(act))


def is_row_stopped_untrue(cells, runs):
    """Whether the last one of runs that may stop, from nothing, is not true so far."""
    def act(ask):
        top, _ = plain_row(cells, range(len(cells)), {}, ask)
        values = {}
        for place in runs:
            _, values, shown, left = plain_go(cells[place], values, ask)
        top_shown, top_left = top[runs[-1]]
        return shown != top_shown[:len(shown)] or any(left[x] != top_left[x] for x in left)
    return any(over_worlds(act))


def rows_up_to(cells, longest):
    """All rows of runs, the shorter ones ahead, of like length as lists compare."""
    for many in range(1, longest + 1):
        for row in product(range(len(cells)), repeat=many):
            yield list(row)


def first_row(cells, longest, is_untrue):
    """The first of these rows that ends untrue, None without one."""
    for row in rows_up_to(cells, longest):
        if is_untrue(cells, row):
            return row
    return None


def never_misleads(cells, longest):
    """Whether no row from nothing, up to this length, ends untrue."""
    return first_row(cells, longest, lambda page, row: is_row_untrue(page, row, False)) is None


def term_of(web, at, ask):
    """The term, or the truth, that a row of a web comes to."""
    row = web[at]
    if row[0] == "given":
        return row
    if row[0] == "either":
        return term_of(web, row[2] if term_of(web, row[1], ask) else row[3], ask)
    terms = [term_of(web, need, ask) for need in row[2]]
    return (row[1], tuple(terms)) if row[0] == "made" else ask(row[1], terms)


def are_plainly_alike(web, one, other):
    """Whether two parts come to one term in all worlds."""
    def act(ask):
        return term_of(web, one, ask) == term_of(web, other, ask)
    return all(over_worlds(act))


def is_plainly_right(web, meaning):
    """Whether a list of numbers and bools, one for each row, is a right meaning, word by word."""
    for at, row in enumerate(web):
        if row[0] == "either":
            if meaning[at] != meaning[row[2] if meaning[row[1]] else row[3]]:
                return False
        elif row[0] in ("made", "asked"):
            for before, other in enumerate(web[:at]):
                if other[:2] == row[:2] and meaning[before] != meaning[at]:
                    if [meaning[need] for need in other[2]] == [meaning[need] for need in row[2]]:
                        return False
    return True


def all_meanings(web, numbers):
    """All right meanings with numbers below so many."""
    kinds = [(False, True) if row[0] == "asked" else tuple(range(numbers)) for row in web]
    for meaning in product(*kinds):
        if is_plainly_right(web, meaning):
            yield list(meaning)
