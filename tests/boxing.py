"""Pages with boxes that the tests make themselves, and their runs done plainly: a box is a list of one term."""

from itertools import product

from tests.making import maker


def box_do(cell, held):
    """None for a miss, else what is shown, and what is left; the dict of boxes is changed."""
    shown, left = [], set()
    for statement in cell:
        word, x = statement[:2]
        read = {"set": statement[-1], "change": [x, *statement[-1]], "copy": statement[2:], "show": [x]}[word]
        if any(name not in held for name in read):
            return None
        terms = tuple(held[name][0] for name in read)
        if word == "show":
            shown += terms
        elif word == "copy":
            held[x] = held[statement[2]]
            left.add(x)
        elif word == "set":
            held[x] = [(statement[2], terms)]
            left.add(x)
        else:
            held[x][0] = (statement[2], terms)
            left |= {name for name in held if held[name] is held[x]}
    return shown, {name: held[name][0] for name in left}


def box_copy(held):
    """The same boxes, not to be changed with the others."""
    fresh = {id(box): list(box) for box in held.values()}
    return {name: fresh[id(held[name])] for name in held}


def box_step(cell, held):
    """What a run tells, None for a miss, and the boxes behind it, which are others."""
    behind = box_copy(held)
    told = box_do(cell, behind)
    return (None, held) if told is None else (told, behind)


def box_along(cells, row, held=None):
    """What each run of the row tells, and the boxes behind it."""
    held, told = held or {}, []
    for place in row:
        one, held = box_step(cells[place], held)
        told.append(one)
    return told, held


def box_tops(cells):
    return box_along(cells, range(len(cells)))


def standing_of(held):
    """Who holds a box with whom, and the term in it."""
    lots = {}
    for name in sorted(held):
        lots.setdefault(id(held[name]), []).append(name)
    return sorted((lot, held[lot[0]][0]) for lot in lots.values())


def is_sound(cells):
    return None not in box_tops(cells)[0]


def misled_at(cells, row, held):
    """The place of the first run of the row that misleads."""
    tops = box_tops(cells)[0]
    for at, told in enumerate(box_along(cells, row, held)[0]):
        if told is not None and told != tops[row[at]]:
            return at
    return None


def first_row(cells, longest, held):
    """The shortest, least row of which the last run alone misleads, None up to this length."""
    for many in range(1, longest + 1):
        for row in product(range(len(cells)), repeat=many):
            if misled_at(cells, row, held) == many - 1:
                return list(row)
    return None


def a_statement(rng, names, held, changes, steps):
    """A statement that does not miss where these names hold boxes."""
    x = rng.choice(names)
    if not held:
        return ("set", x, rng.choice(steps), [])
    dice = rng.random()
    read = [rng.choice(sorted(held)) for _ in range(rng.choice([0, 0, 0, 1, 1, 2]))]
    if dice < changes:
        return ("change", rng.choice(sorted(held)), rng.choice(steps), read)
    if dice < changes + 0.25:
        return ("copy", x, rng.choice(sorted(held)))
    if dice < changes + 0.4:
        return ("show", rng.choice(sorted(held)))
    return ("set", x, rng.choice(steps), read if rng.random() < 0.4 else [])


def sound_boxed(seed, cells=3, many=3, values=3, changes=0.25, steps="f"):
    """The cells of a page that misses nowhere from the top."""
    rng = maker(seed)
    names = "abcdeg"[:values]
    told, held = [], set()
    for _ in range(cells):
        cell = []
        for _ in range(rng.randint(1, many)):
            cell.append(a_statement(rng, names, held, changes, steps))
            held |= {cell[-1][1]}
        told.append(cell)
    return told


def true_boxed(seed, cells=3, values=3):
    """The cells of a page of which each one sets anew what it changes: often none misleads."""
    rng = maker(seed)
    names = "abcdeg"[:values]
    told = [[("set", name, "e", []) for name in names]]
    for _ in range(cells - 1):
        x, y, z = rng.choice(names), rng.choice(names), rng.choice(names)
        told.append(rng.choice([
            [("set", x, "e", []), ("change", x, "f", []), ("show", x), ("set", x, "e", [])],
            [("copy", x, y)], [("copy", x, y), ("copy", z, y)], [("show", x)], [("set", x, "e", [])],
            [("change", x, "f", []), ("show", x)] + [("set", name, "e", []) for name in names],
            [("copy", x, y), ("set", y, "e", [])]]))
    return told


def sharing_boxed(seed, copies=2, values=3):
    """The cells of a page that misleads just if its copies can share boxes otherwise than from the top."""
    rng = maker(seed)
    names = "abcdeg"[:values]
    anew = [("set", name, "e", []) for name in names]
    told = [[("copy", *rng.sample(names, 2))] for _ in range(copies)]
    x, y = rng.sample(names, 2)
    told.insert(rng.randint(0, copies), [("change", x, "f", []), ("show", y)] + anew)
    return [anew] + told
