"""Tables of rows: a web that grows, with the index of each row at hand."""


class RowTable:
    """Unlike rows, each of rows ahead of it."""

    def __init__(self, rows):
        self.rows = list(rows)
        self.where = {row: at for at, row in enumerate(self.rows)}

    def put_in(self, row):
        """The index of the row, which is put behind the others if it is new."""
        at = self.where.get(row)
        if at is None:
            at = len(self.rows)
            self.rows.append(row)
            self.where[row] = at
        return at


def named_rows(row):
    """The indexes of the rows that a row names."""
    if row[0] == "given":
        return ()
    return row[1:] if row[0] == "either" else row[2]


def led_row(row, places):
    """The row with other indexes for those that it names."""
    if row[0] == "given":
        return row
    if row[0] == "either":
        return ("either", places[row[1]], places[row[2]], places[row[3]])
    return (row[0], row[1], tuple([places[at] for at in row[2]]))


def cone_of(rows, tips):
    """The ascending list of the rows that these need, themselves too."""
    found = {}
    todo = list(tips)
    while todo:
        at = todo.pop()
        if at not in found:
            found[at] = True
            todo.extend(named_rows(rows[at]))
    return sorted(found)
