"""Two hands, by Coffman and Graham: rows get ranks from the last ones back, the greatest goes first.

So, wherever a round's lesser rank is below that of some row, all rows from there on hang on
the other row of that round: these are the lots by which no plan has fewer rounds.
"""


class HandLook:
    """The needed rows of a web of made rows: who hangs on whom, and how they rank."""

    def __init__(self, rows, needed):
        self.rows = rows
        self.needed = needed
        self.below = {}
        for at in needed:
            self.below[at] = {}
            for need in rows[at][2]:
                self.below[at][need] = True
                self.below[at].update(self.below[need])
        self.users = {at: self.next_users(at) for at in needed}
        self.ranks = self.all_ranks()

    def next_users(self, at):
        """The rows that hang on this one with none between."""
        above = [user for user in self.needed if at in self.below[user]]
        return [user for user in above if not any([one in self.below[user] for one in above])]

    def all_ranks(self):
        """The ranks of the rows, from 1 on: who ranks first has the least users."""
        ranks = {}
        while len(ranks) < len(self.needed):
            ready = []
            for at in self.needed:
                if at not in ranks and all([user in ranks for user in self.users[at]]):
                    ready.append((sorted([ranks[user] for user in self.users[at]], reverse=True), at))
            ranks[min(ready)[1]] = len(ranks) + 1
        return ranks

    def rounds(self):
        """The rounds of the best plan: in each one the ready rows with the greatest ranks, these descending."""
        done = {}
        told = []
        while len(done) < len(self.needed):
            ready = [at for at in self.needed if at not in done and all([need in done for need in self.below[at]])]
            ranked = sorted([(self.ranks[at], at) for at in ready], reverse=True)
            told.append([at for _, at in ranked[:2]])
            for at in told[-1]:
                done[at] = True
        return told

    def hang_all(self, lot, ahead):
        """Whether each row of the lot hangs on each one of the lot ahead."""
        return all([one in self.below[at] for at in lot for one in ahead])

    def best_lots(self):
        """The lots that ask for as many rounds as the best plan has."""
        told = []
        head = 0
        for pair in self.rounds()[::-1]:
            other = self.ranks[pair[1]] if len(pair) == 2 else 0
            # Behind such a round a new lot begins; its other row could as well have come later.
            if len(told) == 0 or other < self.ranks[head]:
                head = pair[0]
                told.append([head])
            else:
                told[-1].extend(pair)
        return [sorted(lot) for lot in told[::-1]]
