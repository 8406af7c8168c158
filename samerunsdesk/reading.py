"""Reads the text of a program, and makes its table of places; or that of a test, and tells where it holds."""

from samerunsdesk.tables import Program
from samerunsdesk.tables import either
from samerunsdesk.tables import narrowed

MOST_ACTIONS = 12
MOST_DEPTH = 32
ALL_NUMBERS = 0xFFFFFFFFFFFFFFFF
SIGNS = "01ABCDEFabcdefgh()!*;+"
ACTIONS = "abcdefgh"
TESTS = {
    "0": 0x0000000000000000,
    "1": 0xFFFFFFFFFFFFFFFF,
    "A": 0xAAAAAAAAAAAAAAAA,
    "B": 0xCCCCCCCCCCCCCCCC,
    "C": 0xF0F0F0F0F0F0F0F0,
    "D": 0xFF00FF00FF00FF00,
    "E": 0xFFFF0000FFFF0000,
    "F": 0xFFFFFFFF00000000,
}


class WrongText(ValueError):
    pass


class Part:
    # alone: the numbers that are runs by themselves. first: the places whose action may come first, and the
    # numbers ahead of it then. last: the places whose action may come last, and the numbers behind it then.
    def __init__(self, is_test, alone, first, last):
        self.is_test = is_test
        self.alone = alone
        self.first = first
        self.last = last


def choice(one, other):
    is_test = one.is_test and other.is_test
    return Part(is_test, one.alone | other.alone, either(one.first, other.first), either(one.last, other.last))


def negation(part):
    if not part.is_test:
        raise WrongText("! stands ahead of what is not a test")
    return Part(True, ALL_NUMBERS ^ part.alone, {}, {})


class Reader:
    # signs holds what is open or waits for its right side, so that nesting needs no calls within calls.
    def __init__(self):
        self.actions = [None]
        self.onward = [{}]
        self.parts = []
        self.signs = []
        self.depth = 0

    def begin(self, sign):
        if sign == "(" or sign == "!":
            self.open_sign(sign)
            return True
        if sign in TESTS:
            self.put(Part(True, TESTS[sign], {}, {}))
        elif sign in ACTIONS:
            self.put(self.action(sign))
        else:
            raise WrongText("something is missing ahead of a sign")
        return False

    def go_on(self, sign):
        if sign == "*":
            self.parts.append(self.loop(self.parts.pop()))
            return False
        if sign == ")":
            self.close_bracket()
            return False
        if sign == ";":
            self.combine(";")
        elif sign == "+":
            self.combine(";+")
        else:
            raise WrongText("a sign is missing between two parts")
        self.signs.append(sign)
        return True

    def finish(self):
        self.combine(";+")
        if self.signs:
            raise WrongText("a bracket is not closed")
        return self.parts.pop()

    def open_sign(self, sign):
        if self.depth == MOST_DEPTH:
            raise WrongText("brackets and ! lie too deep")
        self.depth += 1
        self.signs.append(sign)

    def close_bracket(self):
        self.combine(";+")
        if not self.signs:
            raise WrongText("a bracket is closed that was not opened")
        self.signs.pop()
        self.depth -= 1
        self.put(self.parts.pop())

    # A ! takes only the unit right behind it, so it is done before a star that follows is seen.
    def put(self, part):
        unit = part
        while self.signs and self.signs[-1] == "!":
            self.signs.pop()
            self.depth -= 1
            unit = negation(unit)
        self.parts.append(unit)

    def combine(self, binding):
        while self.signs and self.signs[-1] in binding:
            sign = self.signs.pop()
            other = self.parts.pop()
            one = self.parts.pop()
            self.parts.append(self.sequence(one, other) if sign == ";" else choice(one, other))

    def action(self, sign):
        place = len(self.actions)
        if place > MOST_ACTIONS:
            raise WrongText("too many actions")
        self.actions.append(ACTIONS.index(sign))
        self.onward.append({})
        return Part(False, 0, {place: ALL_NUMBERS}, {place: ALL_NUMBERS})

    def sequence(self, one, other):
        self.link(one.last, other.first)
        first = either(one.first, narrowed(other.first, one.alone))
        last = either(narrowed(one.last, other.alone), other.last)
        return Part(one.is_test and other.is_test, one.alone & other.alone, first, last)

    def loop(self, part):
        self.link(part.last, part.first)
        return Part(False, ALL_NUMBERS, part.first, part.last)

    def link(self, last, first):
        for place in last:
            self.onward[place] = either(self.onward[place], narrowed(first, last[place]))


def signs_of(text):
    signs = {}
    for sign in SIGNS:
        signs[ord(sign)] = sign
    found = []
    for byte in text:
        if byte not in signs:
            raise WrongText("a byte is no sign of a program")
        found.append(signs[byte])
    return found


def read_whole(reader, text):
    awaits_part = True
    for sign in signs_of(text):
        if awaits_part:
            awaits_part = reader.begin(sign)
        else:
            awaits_part = reader.go_on(sign)
    if awaits_part:
        raise WrongText("the text ends where a part is missing")
    return reader.finish()


def read_program(text):
    reader = Reader()
    whole = read_whole(reader, text)
    onward = [either({0: whole.alone}, whole.first)]
    for place in range(1, len(reader.actions)):
        onward.append(either({0: whole.last.get(place, 0)}, reader.onward[place]))
    return Program(list(reader.actions), onward)


# The numbers by which the test holds: a test's table would tell no more.
def read_test(text):
    whole = read_whole(Reader(), text)
    if not whole.is_test:
        raise WrongText("a program with actions or stars is no test")
    return whole.alone
