"""Nets of what is wanted, had, made: how much can be sent, and what is still reached then.

Each row has two knots, one for being had, one for being made. Who is had may be loaded, so far as
the price goes, else it is made; who is made pays for it, and its needs are had.
"""

from pagestrue.rowtables import named_rows


class Net:
    """Room between knots: how much can still be sent from one to another."""

    def __init__(self, many):
        self.room = [{} for _ in range(many)]

    def let(self, one, other, amount):
        """Let so much be sent from the one knot to the other."""
        self.room[one][other] = amount
        self.room[other][one] = 0

    def sent(self, one, other):
        """How much is sent from the one knot to the other: so much can go back."""
        return self.room[other][one]

    def move(self, one, other, amount):
        """Send so much more from the one knot to the other."""
        self.room[one][other] -= amount
        self.room[other][one] += amount

    def reached(self, start):
        """The dict from all knots that something more can reach to the knot ahead of each."""
        ahead = {start: None}
        todo = [start]
        at = 0
        while at < len(todo):
            one = todo[at]
            for other in self.room[one]:
                if other not in ahead and self.room[one][other] > 0:
                    ahead[other] = one
                    todo.append(other)
            at += 1
        return ahead

    def send_all(self, start, end):
        """Send as much as can be: by shortest ways, so that they come to an end."""
        ahead = self.reached(start)
        while end in ahead:
            steps = []
            knot = end
            while knot != start:
                steps.append((ahead[knot], knot))
                knot = ahead[knot]
            amount = min([self.room[one][other] for one, other in steps])
            for one, other in steps:
                self.move(one, other, amount)
            ahead = self.reached(start)
        return ahead


class KeepNet:
    """The net of a web with its prices, through which as much is sent as can be."""

    def __init__(self, rows, making, loading, wanted_rows):
        self.rows = rows
        self.wanted_rows = wanted_rows
        self.start = 2 * len(rows)
        self.end = self.start + 1
        self.net = Net(self.end + 1)
        # More than all makings never goes anywhere.
        endless = sum(making) + 1
        for at in wanted_rows:
            self.net.let(self.start, at, endless)
        for at, row in enumerate(rows):
            self.net.let(at, self.made_knot(at), endless if loading[at] is None else loading[at])
            self.net.let(self.made_knot(at), self.end, making[at])
            for need in named_rows(row):
                self.net.let(self.made_knot(at), need, endless)
        self.still = self.net.send_all(self.start, self.end)

    def made_knot(self, at):
        """The knot of the row's being made."""
        return len(self.rows) + at

    def least_price(self):
        """How much is sent: so much the cheapest plan costs."""
        return sum([self.net.sent(self.start, at) for at in self.wanted_rows])

    def least_plan(self):
        """The plan of what the wanted rows still reach."""
        told = []
        for at in range(len(self.rows)):
            if at not in self.still:
                told.append("out")
            else:
                told.append("make" if self.made_knot(at) in self.still else "load")
        return told

    def taken_ways(self):
        """What is sent as ways; it is taken out of the net on the way."""
        told = []
        for at in self.wanted_rows:
            while self.net.sent(self.start, at) > 0:
                told.append(self.taken_way(at))
        return told

    def taken_way(self, first):
        """A way from the wanted row on, with as much as goes along all of it."""
        rows = [first]
        knots = [self.start, first, self.made_knot(first)]
        while self.net.sent(knots[-1], self.end) == 0:
            need = [one for one in named_rows(self.rows[rows[-1]]) if self.net.sent(knots[-1], one) > 0][0]
            rows.append(need)
            knots.extend([need, self.made_knot(need)])
        knots.append(self.end)
        steps = list(zip(knots[:-1], knots[1:]))
        amount = min([self.net.sent(one, other) for one, other in steps])
        for one, other in steps:
            self.net.move(one, other, -amount)
        return (amount, rows)
