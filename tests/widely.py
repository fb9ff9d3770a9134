"""Wide pages that the tests make themselves, and their runs done plainly, on terms.

A term is a step with the terms that it was made of, a pair; a function is a triple of its params, its
body and its end, all of them as tuples.
"""

from itertools import product

from tests.making import as_tuples, maker


class Miss(Exception):
    """Nothing comes of this run."""


def stands_for(name, stand):
    if name not in stand:
        raise Miss
    return stand[name]


def is_term(value):
    return len(value) == 2


def made(step, values):
    if not all(is_term(value) for value in values):
        raise Miss
    return (step, tuple(values))


def call(function, values, page, active):
    """What a call comes to: names are looked up in the function, then on the page."""
    if is_term(function) or len(function[0]) != len(values) or function in active:
        raise Miss
    own = dict(zip(function[0], values))

    def look(name):
        return own[name] if name in own else page(name)

    for statement in function[1]:
        word, x = statement[:2]
        if word == "set":
            own[x] = made(statement[2], [look(name) for name in statement[3]])
        elif word == "copy":
            own[x] = look(statement[2])
        else:
            own[x] = call(look(statement[2]), [look(name) for name in statement[3]], page, active + [function])
    return look(function[2])


def wide_run(cell, stand, looked=None):
    """None for a miss, else what stands behind it, what it shows, what it leaves."""
    stand = dict(stand)
    shown, left = [], set()

    def page(name):
        if looked is not None and name not in left:
            looked.add(name)
        return stands_for(name, stand)

    try:
        for statement in cell:
            word, x = statement[:2]
            if word == "show":
                shown.append(page(x))
                if not is_term(shown[-1]):
                    raise Miss
                continue
            if word == "set":
                value = made(statement[2], [page(name) for name in statement[3]])
            elif word == "copy":
                value = page(statement[2])
            elif word == "tell":
                value = as_tuples(statement[2:])
            else:
                value = call(page(statement[2]), [page(name) for name in statement[3]], page, [])
            stand[x] = value
            left.add(x)
    except Miss:
        return None
    return stand, shown, {name: stand[name] for name in left}


def wide_row(cells, runs, stand=None):
    """Of each run None or what it shows and leaves; and what stands at the end."""
    stand, told = stand or {}, []
    for place in runs:
        run = wide_run(cells[place], stand)
        if run is not None:
            stand = run[0]
        told.append(None if run is None else run[1:])
    return told, stand


def first_untrue(cells, runs, stand=None):
    """The place of the first run that is not as its cell in the top, and the first thing."""
    top, _ = wide_row(cells, range(len(cells)))
    for at, run in enumerate(wide_row(cells, runs, stand)[0]):
        if run is not None and run != top[runs[at]]:
            shown, left = top[runs[at]]
            for index, term in enumerate(run[0]):
                if term != shown[index]:
                    return (at, ("shown", index))
            return (at, ("left", min(name for name in left if run[1][name] != left[name])))
    return None


def first_row(cells, longest):
    """The shortest, least row from nothing of which the last run alone is untrue, None up to this length."""
    for many in range(1, longest + 1):
        for row in product(range(len(cells)), repeat=many):
            found = first_untrue(cells, row)
            if found is not None and found[0] == many - 1:
                return list(row)
    return None


def is_sound(cells):
    return None not in wide_row(cells, range(len(cells)))[0]


def owners_behind(cells, row):
    """Who left each name last."""
    owners = {}
    for place, run in zip(row, wide_row(cells, row)[0]):
        for name in run[1] if run else ():
            owners[name] = place
    return owners


class WideMaker:
    """Makes wide cells over a few names, of which some stand for functions more often."""

    def __init__(self, seed, values="ab", functions="fg", steps="hk"):
        self.rng = maker(seed)
        self.values = values
        self.functions = functions
        self.steps = steps

    def value(self):
        return self.rng.choice(self.values)

    def some(self, most):
        return [self.value() for _ in range(self.rng.randint(0, most))]

    def inner(self, params):
        """A statement of a body."""
        names = params + list(self.values) + ["q"]
        read = [self.rng.choice(names) for _ in range(self.rng.randint(0, 2))]
        x = self.rng.choice(params + ["q", "q", self.value()])
        dice = self.rng.random()
        if dice < 0.3:
            return ("call", x, self.rng.choice(list(self.functions) + params), read[:self.rng.randint(0, 1)])
        if dice < 0.5:
            return ("copy", x, self.rng.choice(names + list(self.functions)))
        return ("set", x, self.rng.choice(self.steps), read)

    def tell(self):
        params = self.rng.sample(["p", "a", "f"], self.rng.choice([0, 0, 1, 1, 2]))
        body = [self.inner(params) for _ in range(self.rng.randint(0, 2))]
        return ("tell", self.rng.choice(self.functions), params, body,
                self.rng.choice(params + ["q"] * len(body) + list(self.values)))

    def statement(self):
        dice = self.rng.random()
        if dice < 0.25:
            return self.tell()
        if dice < 0.5:
            passed = [self.rng.choice([self.value(), self.value(), self.rng.choice(self.functions)])
                      for _ in range(self.rng.choice([0, 0, 1, 1, 2]))]
            return ("call", self.rng.choice([self.value(), self.rng.choice(self.functions)]),
                    self.rng.choice(self.functions), passed)
        if dice < 0.6:
            return ("show", self.value())
        if dice < 0.7:
            return ("copy", self.rng.choice(self.values + self.functions),
                    self.rng.choice(self.values + self.functions))
        return ("set", self.value(), self.rng.choice(self.steps), self.some(1))

    def cell(self, many):
        return [self.statement() for _ in range(self.rng.randint(0, many))]

    def sound_cell(self, stand, many):
        """A cell that does not miss on what stands, and what stands behind it."""
        cell = []
        for _ in range(self.rng.randint(1, many)):
            for _ in range(8):
                further = cell + [self.statement()]
                if wide_run(further, stand) is not None:
                    cell = further
                    break
        return cell, wide_run(cell, stand)[0]


def sound_wide(seed, cells=3, many=2, **kinds):
    """The cells of a sound wide page."""
    made_by = WideMaker(seed, **kinds)
    told, stand = [], {}
    for _ in range(cells):
        cell, stand = made_by.sound_cell(stand, many)
        told.append(cell)
    return told
