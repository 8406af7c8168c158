"""Which programs have the same runs, and the first run by which two of them differ.

A program becomes a table of places. Each action that stands in its text has a place from 1 on; place 0 is
where a run begins and where it ends. For each place the table has the places that may come next, and with
which numbers: a set of the numbers 0 to 63 is one whole number, whose bit k is 1 if k is in the set.
"""

MOST_MOST = 1048576
MOST_ACTIONS = 12
MOST_DEPTH = 32
NUMBERS = 64
ALL_NUMBERS = 0xFFFFFFFFFFFFFFFF
SIGNS = "01ABCDEFabcdefgh()!*;+"
ACTIONS = "abcdefgh"
TESTS = {
    "0": 0x0000000000000000,
    "1": 0xFFFFFFFFFFFFFFFF,
    "A": 0xAAAAAAAAAAAAAAAA,
    "B": 0xCCCCCCCCCCCCCCCC,
    "C": 0xF0F0F0F0F0F0F0F0,
    "D": 0xFF00FF00FF00FF00,
    "E": 0xFFFF0000FFFF0000,
    "F": 0xFFFFFFFF00000000,
}
# The bit of place 0 among the places that come next: the run may end there.
END = 1


class NotAProgram(ValueError):
    pass


class Part:
    # alone: the numbers that are runs by themselves. first: the places whose action may come first, and the
    # numbers ahead of it then. last: the places whose action may come last, and the numbers behind it then.
    def __init__(self, is_test, alone, first, last):
        self.is_test = is_test
        self.alone = alone
        self.first = first
        self.last = last


def either(one, other):
    both = dict(one)
    for place in other:
        both[place] = both.get(place, 0) | other[place]
    return both


def narrowed(places, numbers):
    kept = {}
    for place in places:
        if places[place] & numbers:
            kept[place] = places[place] & numbers
    return kept


def choice(one, other):
    is_test = one.is_test and other.is_test
    return Part(is_test, one.alone | other.alone, either(one.first, other.first), either(one.last, other.last))


def negation(part):
    if not part.is_test:
        raise NotAProgram("! stands ahead of what is not a test")
    return Part(True, ALL_NUMBERS ^ part.alone, {}, {})


class Reader:
    # signs holds what is open or waits for its right side, so that nesting needs no calls within calls.
    def __init__(self):
        self.actions = [None]
        self.onward = [{}]
        self.parts = []
        self.signs = []
        self.depth = 0

    def begin(self, sign):
        if sign == "(" or sign == "!":
            self.open_sign(sign)
            return True
        if sign in TESTS:
            self.put(Part(True, TESTS[sign], {}, {}))
        elif sign in ACTIONS:
            self.put(self.action(sign))
        else:
            raise NotAProgram("something is missing ahead of a sign")
        return False

    def go_on(self, sign):
        if sign == "*":
            self.parts.append(self.loop(self.parts.pop()))
            return False
        if sign == ")":
            self.close_bracket()
            return False
        if sign == ";":
            self.combine(";")
        elif sign == "+":
            self.combine(";+")
        else:
            raise NotAProgram("a sign is missing between two parts")
        self.signs.append(sign)
        return True

    def finish(self):
        self.combine(";+")
        if self.signs:
            raise NotAProgram("a bracket is not closed")
        return self.parts.pop()

    def open_sign(self, sign):
        if self.depth == MOST_DEPTH:
            raise NotAProgram("brackets and ! lie too deep")
        self.depth += 1
        self.signs.append(sign)

    def close_bracket(self):
        self.combine(";+")
        if not self.signs:
            raise NotAProgram("a bracket is closed that was not opened")
        self.signs.pop()
        self.depth -= 1
        self.put(self.parts.pop())

    # A ! takes only the unit right behind it, so it is done before a star that follows is seen.
    def put(self, part):
        unit = part
        while self.signs and self.signs[-1] == "!":
            self.signs.pop()
            self.depth -= 1
            unit = negation(unit)
        self.parts.append(unit)

    def combine(self, binding):
        while self.signs and self.signs[-1] in binding:
            sign = self.signs.pop()
            other = self.parts.pop()
            one = self.parts.pop()
            self.parts.append(self.sequence(one, other) if sign == ";" else choice(one, other))

    def action(self, sign):
        place = len(self.actions)
        if place > MOST_ACTIONS:
            raise NotAProgram("too many actions")
        self.actions.append(ACTIONS.index(sign))
        self.onward.append({})
        return Part(False, 0, {place: ALL_NUMBERS}, {place: ALL_NUMBERS})

    def sequence(self, one, other):
        self.link(one.last, other.first)
        first = either(one.first, narrowed(other.first, one.alone))
        last = either(narrowed(one.last, other.alone), other.last)
        return Part(one.is_test and other.is_test, one.alone & other.alone, first, last)

    def loop(self, part):
        self.link(part.last, part.first)
        return Part(False, ALL_NUMBERS, part.first, part.last)

    def link(self, last, first):
        for place in last:
            self.onward[place] = either(self.onward[place], narrowed(first, last[place]))


class Program:
    # actions: the action of each place. onward: for each place the places that come next, with their numbers.
    def __init__(self, actions, onward):
        self.actions = actions
        self.onward = onward


def signs_of(text):
    signs = {}
    for sign in SIGNS:
        signs[ord(sign)] = sign
    found = []
    for byte in text:
        if byte not in signs:
            raise NotAProgram("a byte is no sign of a program")
        found.append(signs[byte])
    return found


def read_program(text):
    reader = Reader()
    awaits_part = True
    for sign in signs_of(text):
        if awaits_part:
            awaits_part = reader.begin(sign)
        else:
            awaits_part = reader.go_on(sign)
    if awaits_part:
        raise NotAProgram("the text ends where a part is missing")
    whole = reader.finish()
    onward = [either({0: whole.alone}, whole.first)]
    for place in range(1, len(reader.actions)):
        onward.append(either({0: whole.last.get(place, 0)}, reader.onward[place]))
    return Program(list(reader.actions), onward)


# The places of the second program go behind those of the first, so that a state of either is a whole number
# whose bits are places, and no state but the empty one is one of both.
def put_together(one, other):
    base = len(one.actions)
    moved = [moved_row(row, base) for row in other.onward]
    return Program(one.actions + other.actions, one.onward + moved)


# Place 0 stays: as what comes next it is the end, and that is the same for both.
def moved_row(row, base):
    moved = {}
    for place in row:
        if place == 0:
            moved[0] = row[0]
        else:
            moved[place + base] = row[place]
    return moved


def places_at(row, number):
    places = 0
    for place in row:
        if row[place] >> number & 1:
            places |= 1 << place
    return places


# Numbers that lead alike from every place can't be told apart: the first run has only the least of them.
def columns_of(program):
    seen = {}
    columns = []
    for number in range(NUMBERS):
        column = [places_at(row, number) for row in program.onward]
        if tuple(column) not in seen:
            seen[tuple(column)] = True
            columns.append((number, column))
    return columns


def places_by_action(program):
    masks = []
    for action in range(len(ACTIONS)):
        mask = 0
        for place, done in enumerate(program.actions):
            if done == action:
                mask |= 1 << place
        if mask > 0:
            masks.append((action, mask))
    return masks


def places_in(state):
    return [place for place in range(state.bit_length()) if state >> place & 1]


def reached(column, places):
    found = 0
    for place in places:
        found |= column[place]
    return found


class Search:
    # Pairs of states are met in the order of the runs that lead to them. above says which states were put into
    # one class. A pair of one class is left out: a rest of a run by which its states differ is one by which the
    # states of a pair met earlier differ, so the first run is found from that pair. This keeps the pairs as few
    # as the states of both programs together.
    def __init__(self, one, other):
        self.above = {}
        self.ones = []
        self.others = []
        self.ways = []
        self.meet(one, other, None)

    def meet(self, one, other, way):
        high = self.top_of(one)
        low = self.top_of(other)
        if high != low:
            self.above[low] = high
            self.ones.append(one)
            self.others.append(other)
            self.ways.append(way)

    def top_of(self, state):
        top = state
        while top in self.above:
            top = self.above[top]
        step = state
        while step != top:
            following = self.above[step]
            self.above[step] = top
            step = following
        return top

    def run_to(self, pair, number):
        backwards = [number]
        way = self.ways[pair]
        while way is not None:
            backwards.append(way[2])
            backwards.append(way[1])
            way = self.ways[way[0]]
        return list(reversed(backwards))


# None where the states have the same runs.
def first_difference(program, one, other):
    columns = columns_of(program)
    masks = places_by_action(program)
    search = Search(one, other)
    pair = 0
    while pair < len(search.ones):
        ones = places_in(search.ones[pair])
        others = places_in(search.others[pair])
        for number, column in columns:
            left = reached(column, ones)
            right = reached(column, others)
            if (left ^ right) & END:
                return search.run_to(pair, number)
            for action, mask in masks:
                search.meet(left & mask, right & mask, (pair, number, action))
        pair += 1
    return None


def answer(run, most):
    if run is None:
        return [0]
    if len(run) > most:
        return [-4]
    return [len(run)] + run


def same(most, p, q):
    if most < 0 or most > MOST_MOST:
        return [-1]
    try:
        one = read_program(p)
        other = read_program(q)
    except NotAProgram:
        return [-2]
    run = first_difference(put_together(one, other), 1, 1 << len(one.actions))
    return answer(run, most)
