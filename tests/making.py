"""Cells, pages, webs that the tests make themselves, the same ones each time."""

import random

VALUES = ["a", "b", "c", "d", "e", "g", "h8", "if"]
STEPS = ["f", "g", "end", "set"]
TESTS = ["t", "s", "else", "cell"]


def maker(seed):
    """A source of choices that is the same for the same seed."""
    return random.Random(seed)


def names_set(statements):
    """The names that statements set, as a set of the test's own."""
    found = set()
    for statement in statements:
        if statement[0] == "if":
            found |= names_set(statement[3]) | names_set(statement[4])
        elif statement[0] != "show":
            found.add(statement[1])
    return found


class CellMaker:
    """Makes statements that read names of a lot, any names or just those that stand."""

    def __init__(self, rng, values=3, steps=2, tests=2, is_sound=True, calm=0):
        self.rng = rng
        self.calm = calm
        self.values = VALUES[:values]
        self.steps = STEPS[:steps]
        self.tests = TESTS[:tests]
        self.is_sound = is_sound

    def read(self, standing):
        return self.rng.choice(sorted(standing) if self.is_sound else self.values)

    def reads(self, standing, most):
        if self.is_sound and not standing or self.rng.random() < self.calm:
            return []
        return [self.read(standing) for _ in range(self.rng.randint(0, most))]

    def setting(self, name, standing):
        rng = self.rng
        can_read = standing or not self.is_sound
        if can_read and rng.random() < 0.3:
            return ("copy", name, self.read(standing))
        return ("set", name, rng.choice(self.steps), self.reads(standing, 2))

    def block(self, standing, many, depth, shows):
        told = []
        here = set(standing)
        for _ in range(self.rng.randint(0, many)):
            told.append(self.statement(here, many, depth, shows))
            here |= names_set(told[-1:])
        return told

    def statement(self, standing, many, depth, shows):
        rng = self.rng
        can_read = standing or not self.is_sound
        dice = rng.random()
        if depth > 0 and dice < 0.3:
            yes = self.block(standing, many, depth - 1, False)
            no = self.block(standing, many, depth - 1, False)
            for name in sorted(names_set(yes) - names_set(no)):
                no.append(self.setting(name, standing))
            for name in sorted(names_set(no) - names_set(yes)):
                yes.append(self.setting(name, standing))
            return ("if", rng.choice(self.tests), self.reads(standing, 2), yes, no)
        if shows and can_read and dice > 0.65:
            return ("show", self.read(standing))
        return self.setting(rng.choice(self.values), standing)


def a_cell(seed, depth=2, many=4, **kinds):
    """A cell that reads whatever names."""
    made = CellMaker(maker(seed), is_sound=False, **kinds)
    return made.block(set(), many, depth, True)


def sound_cells(seed, cells=3, depth=0, many=2, **kinds):
    """The cells of a sound page."""
    made = CellMaker(maker(seed), **kinds)
    told = []
    standing = set()
    for _ in range(cells):
        told.append(made.block(standing, many, depth, True))
        standing |= names_set(told[-1])
    return told


def any_cells(seed, cells=3, depth=1, many=2, calm=0.5, **kinds):
    """The cells of a page, sound or not."""
    made = CellMaker(maker(seed), is_sound=False, calm=calm, **kinds)
    return [made.block(set(), many, depth, True) for _ in range(cells)]


def reading_cells(seed, cells, many):
    """A cell that sets some names of nothing, then cells that read most often."""
    rng = maker(seed)
    told = [[("set", name, "f", []) for name in rng.sample("abc", rng.randint(1, 3))]]
    for _ in range(cells - 1):
        cell = []
        for _ in range(rng.randint(1, many)):
            name, does, one, other = rng.choice("abc"), rng.choice("fg"), rng.choice("abc"), rng.choice("abc")
            cell.append(rng.choice([("copy", name, one), ("set", name, does, [one]),
                                    ("set", name, does, [one, other]), ("set", name, does, []),
                                    ("copy", name, one), ("show", one)]))
        told.append(cell)
    rng.shuffle(told)
    return told


def a_web(seed, rows=10, most_asked=3, steps=2, tests=2, givens=2):
    """A web of so many rows at most."""
    rng = maker(seed)
    told = []
    for _ in range(rows * 3):
        parts = [at for at, row in enumerate(told) if row[0] != "asked"]
        asked = [at for at, row in enumerate(told) if row[0] == "asked"]
        word = rng.choice(["made", "made", "asked", "either", "either", "given"])
        if word == "given":
            row = ("given", rng.randrange(givens))
        elif word == "either":
            if not asked or len(parts) < 2:
                continue
            row = (word, rng.choice(asked)) + tuple(rng.sample(parts, 2))
        else:
            if word == "asked" and len(asked) >= most_asked:
                continue
            needs = tuple(rng.choice(parts) for _ in range(rng.randint(0, 2))) if parts else ()
            row = (word, rng.choice(STEPS[:steps] if word == "made" else TESTS[:tests]), needs)
        if row not in told and len(told) < rows:
            told.append(row)
    return told


def parts_of(web):
    """The indexes of the parts of a web."""
    return [at for at, row in enumerate(web) if row[0] != "asked"]


def as_lists(thing):
    """The thing with lists for all tuples."""
    if isinstance(thing, (list, tuple)):
        return [as_lists(one) for one in thing]
    if isinstance(thing, dict):
        return {key: as_lists(thing[key]) for key in thing}
    return thing


def as_tuples(thing):
    """The thing with tuples for all lists."""
    if isinstance(thing, (list, tuple)):
        return tuple(as_tuples(one) for one in thing)
    if isinstance(thing, dict):
        return {key: as_tuples(thing[key]) for key in thing}
    return thing


class Strange:
    """An object that is like nothing else and can not be a key."""

    __hash__ = None

    def __eq__(self, other):
        raise AssertionError("nobody may ask")


def strange_things():
    """Objects of many kinds that hardly any point takes."""
    ring = []
    ring.append(ring)
    ring_if = []
    ring_if.append(("if", "t", [], ring_if, ring_if))
    tree = ["asked", 0]
    tree.extend([tree, tree])
    return [
        None, True, False, 0, 1, -1, 10 ** 5000, 1.0, "", "a", "set", "cell\n", b"a", b"",
        {}, {"a": 0}, {1: 2}, {None: None}, {("a", 0): 0}, set(), {1}, frozenset(), object(),
        Strange(), [Strange()], [[Strange()]], [(Strange(), Strange())], {"a": Strange()},
        Exception("a"), len, int, range(3), iter([]), (), [()], [[]], [[[]]], [None], ["set"],
        [["set"]], [["set", "a", "f"]], [["show", "A"]], [["show", 1]], [["if", "t", [], [], []]],
        [["made", "f", [True]]], [["made", "f", "ab"]], [["given", -1]], [["given", True]],
        [["either", 0, 0, 0]], [True], [0.0], [10 ** 5000], ["like"], ("like",), ("asked", 0),
        ring, ring_if, tree, [ring, {}], {"a": ring}, [[0], [0]], ([0], [ring]),
        [("set", "a", "f", ring)], [("made", "f", ring)], {"a": True}, {"a": 0.0}, {0: False},
        {False: False}, [{}], [{"a": 0}], [{"a": Strange()}], {(0, "a"): True}, {(True, "a"): 0},
    ]
