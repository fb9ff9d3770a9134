"""Whole orders counted without being listed: by how far each hand is, and what stands.

As long as no turn strays, each name stands for the part that belongs to the statement that left it
last. So a state is how far the hands are, and what stands under the names that conflict and that
somebody has still to read.
"""

from math import comb

from pagestrue.steadiness import conflicts_of


class OrderCount:
    """Counts of orders of blocks: lots of turns of one hand that are not parted."""

    def __init__(self, look, lines):
        self.look = look
        self.lines = lines
        self.names = [found[0] for found in conflicts_of(look)]
        self.read = [self.still_read(line) for line in lines]
        self.memo = {}
        self.first = (tuple([0] * len(lines)), self.state_of([0] * len(lines), look.stand))

    def still_read(self, line):
        """For each block of the line, and its end, the names that conflict and are read from there on."""
        told = [{}]
        for block in line[::-1]:
            names = dict(told[-1])
            for place in block:
                for name in self.look.wants[place[0]][place[1]]:
                    if name in self.names:
                        names[name] = True
            told.append(names)
        return told[::-1]

    def state_of(self, gone, stand):
        """What stands under the names that count, None under one that nobody reads any more."""
        told = []
        for name in self.names:
            is_read = any([name in self.read[hand][at] for hand, at in enumerate(gone)])
            told.append(stand[name] if is_read else None)
        return tuple(told)

    def is_done(self, state, hand):
        """Whether the hand has nothing left to do."""
        return state[0][hand] == len(self.lines[hand])

    def behind(self, state, hand):
        """The state behind the hand's next block, None if a turn of it strays."""
        stand = dict(list(zip(self.names, state[1])))
        for place in self.lines[hand][state[0][hand]]:
            for name, part in self.look.wants[place[0]][place[1]].items():
                if name in stand and stand[name] != part:
                    return None
            if self.look.leaves(place) in stand:
                stand[self.look.leaves(place)] = self.look.own_part(place)
        gone = list(state[0])
        gone[hand] += 1
        return (tuple(gone), self.state_of(gone, stand))

    def ways(self, gone):
        """In how many orders the blocks can be done that are left."""
        told = 1
        many = 0
        for line, at in zip(self.lines, gone):
            many += len(line) - at
            told *= comb(many, len(line) - at)
        return told

    def true_ways(self, state):
        """How many of them do not stray."""
        if state not in self.memo:
            hands = [hand for hand in range(len(self.lines)) if not self.is_done(state, hand)]
            told = 0 if hands else 1
            for hand in hands:
                behind = self.behind(state, hand)
                if behind is not None:
                    told += self.true_ways(behind)
            self.memo[state] = told
        return self.memo[state]

    def straying_ways(self, state, gone):
        """How many of them stray: all, if the state is None, as behind a turn that strayed."""
        return self.ways(gone) - (0 if state is None else self.true_ways(state))

    def counts(self):
        """How many whole orders there are, and how many of them stray."""
        return (self.ways(self.first[0]), self.straying_ways(self.first, self.first[0]))

    def can_stray(self):
        """Whether some order strays."""
        known = {self.first: True}
        todo = [self.first]
        while todo:
            state = todo.pop()
            for hand in range(len(self.lines)):
                if not self.is_done(state, hand):
                    behind = self.behind(state, hand)
                    if behind is None:
                        return True
                    if behind not in known:
                        known[behind] = True
                        todo.append(behind)
        return False

    def kth(self, k):
        """The hands of the k-th straying order, block by block."""
        told = []
        gone = list(self.first[0])
        state = self.first
        left = k
        while gone != [len(line) for line in self.lines]:
            hand, left = self.next_hand(state, gone, left)
            state = self.behind_all(state, hand)
            gone[hand] += 1
            told.append(hand)
        return told

    def next_hand(self, state, gone, k):
        """The hand with which the k-th straying order goes on, and the how manieth it is with it."""
        hands = [hand for hand, line in enumerate(self.lines) if gone[hand] < len(line)]
        left = k
        many = self.straying_with(state, gone, hands[0])
        while left >= many:
            left -= many
            hands = hands[1:]
            many = self.straying_with(state, gone, hands[0])
        return (hands[0], left)

    def straying_with(self, state, gone, hand):
        """How many straying orders go on with the hand."""
        more = list(gone)
        more[hand] += 1
        return self.straying_ways(self.behind_all(state, hand), more)

    def behind_all(self, state, hand):
        """The state behind the hand's next block, None behind what strayed already, too."""
        return None if state is None else self.behind(state, hand)


def blocks_of(look, hand, fences):
    """A hand's turns in blocks: behind a fence no other hand's turn comes."""
    told = []
    is_bound = False
    for place in look.turns(hand):
        if is_bound:
            told[-1].append(place)
        else:
            told.append([place])
        is_bound = place in fences
    return told


def order_count(look, hands, fences):
    """The count of the whole orders that keep the fences."""
    return OrderCount(look, [blocks_of(look, hand, fences) for hand in hands])
