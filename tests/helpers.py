"""What the tests of the calls have in common."""

import sys

LARGEST_MOST = 1048576
# Between actions of one kind these make programs whose states are thousands.
GUARDS = ["(B+C)", "(C+D)", "(D+E)", "(E+F)", "(F+B)", "(A+B)", "!(B;C)", "!(C;D)", "!(D;E)", "!(E;F)"]


class Unchanging(list):
    """A list that refuses to be changed, even for a while."""

    def refuse(self, *args, **kwargs):
        raise AssertionError("what is handed in was changed")

    append = clear = extend = insert = pop = remove = reverse = sort = refuse
    __setitem__ = __delitem__ = __iadd__ = __imul__ = refuse


def with_few_calls(act):
    """What act gives back, or an error if it needs many calls within one another."""
    depth = 0
    frame = sys._getframe()
    while frame is not None:
        depth, frame = depth + 1, frame.f_back
    before = sys.getrecursionlimit()
    sys.setrecursionlimit(depth + 25)
    try:
        return act()
    finally:
        sys.setrecursionlimit(before)


def random_test(source, depth):
    draw = source.randrange(6)
    if depth == 0 or draw < 2:
        return source.choice("01AABB")
    if draw < 4:
        return "!" + source.choice(["A", "B", "(" + random_test(source, depth - 1) + ")"])
    return "(" + random_test(source, depth - 1) + source.choice(";+") + random_test(source, depth - 1) + ")"


def random_part(source, depth):
    draw = source.randrange(10)
    if depth == 0 or draw == 0:
        return source.choice(["a", "b", "a", random_test(source, 1)])
    if draw < 3:
        return random_part(source, 0) + "*"
    if draw < 5:
        return "(" + random_part(source, depth - 1) + ")*"
    one, other = random_part(source, depth - 1), random_part(source, depth - 1)
    return source.choice(["{};{}", "{}+{}", "({};{})", "({}+{})"]).format(one, other)


def random_program(source, depth):
    text = random_part(source, depth)
    while sum(text.count(action) for action in "ab") > 12:
        text = random_part(source, depth)
    return text


def changed_a_little(source, text):
    place = source.randrange(len(text))
    change = {"A": "B", "B": "A", "a": "b", "b": "a", "0": "1", "1": "0"}
    return text[:place] + change.get(text[place], text[place]) + text[place + 1:]
