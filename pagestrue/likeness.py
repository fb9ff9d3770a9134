"""Which parts are alike: pairs taken apart, tests tried one by one where they tell."""

from pagestrue.rowtables import RowTable, cone_of, led_row


class Likeness:
    """Judges parts of one table, to which it adds rows of its own."""

    def __init__(self, table):
        self.table = table
        self.memo = {}

    def alike(self, one, other):
        """Whether both parts are one value whatever the steps compute."""
        pair = (min(one, other), max(one, other))
        if pair not in self.memo:
            self.memo[pair] = self.alike_with(one, other, {})
        return self.memo[pair]

    def alike_with(self, one, other, truths):
        """Whether they are where the asked rows, made of no either, have these truths."""
        places = self.placed(cone_of(self.table.rows, [one, other]), truths)
        hard = self.hard_pairs(places[one], places[other])
        if hard is None:
            return False
        for first, second in hard:
            asked = self.asked_in(first, second)
            for truth in (False, True):
                more = dict(truths)
                more[asked] = truth
                if not self.alike_with(first, second, more):
                    return False
        return True

    def placed(self, cone, truths):
        """Where each row of the cone stands once the truths are told."""
        places = {}
        for at in cone:
            row = led_row(self.table.rows[at], places)
            if row[0] == "either" and row[1] in truths:
                places[at] = row[2] if truths[row[1]] else row[3]
            elif row[0] == "either" and row[2] == row[3]:
                places[at] = row[2]
            else:
                places[at] = self.table.put_in(row)
        return places

    def hard_pairs(self, one, other):
        """The pairs with an either on which two parts' likeness hangs, None if they are unlike."""
        return pairs_left(self.table.rows, one, other, "either")

    def asked_in(self, one, other):
        """An asked row, made of no either, on which one of the two hangs."""
        rows = self.table.rows
        asked = rows[one][1] if rows[one][0] == "either" else rows[other][1]
        inner = [at for at in cone_of(rows, [asked]) if rows[at][0] == "either"]
        # The first either of all has nothing but other rows ahead of it.
        return rows[inner[0]][1] if inner else asked


def pairs_left(rows, one, other, word):
    """The pairs with a row of this word on which it hangs whether two parts are one, or None.

    Steps are free: what two like steps make is one part just if their needs are. It is None if
    they never are.
    """
    left = []
    seen = {}
    todo = [(one, other)]
    while todo:
        pair = todo.pop()
        if pair[0] == pair[1] or pair in seen:
            continue
        seen[pair] = True
        first = rows[pair[0]]
        second = rows[pair[1]]
        if word in (first[0], second[0]):
            left.append(pair)
        elif not are_like_steps(first, second):
            return None
        else:
            todo.extend(list(zip(first[2], second[2])))
    return left


def are_like_steps(first, second):
    """Whether both rows are made by one step of as many parts."""
    if first[0] != "made" or second[0] != "made" or first[1] != second[1]:
        return False
    return len(first[2]) == len(second[2])


def parting_choices(rows, one, other):
    """The least choices by which two parts are unlike, None if they are alike."""
    likeness = Likeness(RowTable(rows))
    if likeness.alike(one, other):
        return None
    truths = {}
    choices = []
    for at, row in enumerate(rows):
        if row[0] == "asked":
            asked = likeness.placed(cone_of(likeness.table.rows, [at]), truths)[at]
            if asked not in truths:
                truths[asked] = False
                truths[asked] = likeness.alike_with(one, other, truths)
                choices.append(truths[asked])
    return choices


def first_unlike(likeness, told, other):
    """The first thing shown, or left, that two runs of a cell do not have alike, or None."""
    for at, parts in enumerate(zip(told[0], other[0])):
        if not likeness.alike(parts[0], parts[1]):
            return ("shown", at)
    for name in sorted(told[1]):
        if not likeness.alike(told[1][name], other[1][name]):
            return ("left", name)
    return None
