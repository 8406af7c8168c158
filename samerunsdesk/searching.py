"""Searches through pairs of states, in the order of the runs that lead to them, for the first run that tells."""

from samerunsdesk.tables import END
from samerunsdesk.tables import columns_of
from samerunsdesk.tables import places_by_action
from samerunsdesk.tables import places_in


class Pairs:
    # ways: for each pair the one that it was met from, and the number and the action that lead on from there.
    def __init__(self):
        self.ones = []
        self.others = []
        self.ways = []

    def keep(self, one, other, way):
        self.ones.append(one)
        self.others.append(other)
        self.ways.append(way)

    def run_to(self, pair, number):
        backwards = [number]
        way = self.ways[pair]
        while way is not None:
            backwards.append(way[2])
            backwards.append(way[1])
            way = self.ways[way[0]]
        return list(reversed(backwards))


class Differing(Pairs):
    # For runs that one state has and the other hasn't. above says which states were put into one class. A pair
    # of one class is left out: a rest of a run by which its states differ is one by which the states of a pair
    # met earlier differ, so the first run is found from that pair. This keeps the pairs as few as the states of
    # both programs together.
    def __init__(self):
        Pairs.__init__(self)
        self.above = {}

    def tells(self, left, right):
        return (left ^ right) & END

    def meet(self, one, other, way):
        high = self.top_of(one)
        low = self.top_of(other)
        if high != low:
            self.above[low] = high
            self.keep(one, other, way)

    def top_of(self, state):
        top = state
        while top in self.above:
            top = self.above[top]
        step = state
        while step != top:
            following = self.above[step]
            self.above[step] = top
            step = following
        return top


class Missing(Pairs):
    # For runs that the first state has and the second hasn't. Such a run goes through one place of the first
    # state at a time, so a place that was met earlier with the same second state is left out: the first run is
    # found from there. This keeps the pairs as few as the places of the first program times the states of the
    # second one.
    def __init__(self):
        Pairs.__init__(self)
        self.met = {}

    def tells(self, left, right):
        return left & ~right & END

    def meet(self, one, other, way):
        before = self.met.get(other, 0)
        fresh = one & ~before
        if fresh:
            self.met[other] = before | fresh
            self.keep(fresh, other, way)


class Steps:
    # A state is met in many pairs, so what it leads to is worked out once and known then.
    def __init__(self, program):
        self.columns = columns_of(program)
        self.known = {}

    def onward_from(self, state):
        if state not in self.known:
            places = places_in(state)
            self.known[state] = [reached(column, places) for number, column in self.columns]
        return self.known[state]

    # Numbers that lead alike from both states can't be told apart: the first run has only the least of them.
    def from_pair(self, one, other):
        least = {}
        for step, left, right in zip(self.columns, self.onward_from(one), self.onward_from(other)):
            if (left, right) not in least:
                least[(left, right)] = step[0]
        return least


def reached(column, places):
    found = 0
    for place in places:
        found |= column[place]
    return found


# None where no run tells.
def first_run(program, pairs, one, other):
    steps = Steps(program)
    masks = places_by_action(program)
    pairs.meet(one, other, None)
    pair = 0
    while pair < len(pairs.ones):
        least = steps.from_pair(pairs.ones[pair], pairs.others[pair])
        for left, right in least:
            number = least[(left, right)]
            if pairs.tells(left, right):
                return pairs.run_to(pair, number)
            for action, mask in masks:
                pairs.meet(left & mask, right & mask, (pair, number, action))
        pair += 1
    return None
