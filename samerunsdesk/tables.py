"""The tables of places that programs become, and what is asked of them.

Each action that stands in a program's text has a place from 1 on; place 0 is where a run begins and where it
ends. For each place the table has the places that may come next, and with which numbers: a set of the numbers
0 to 63 is one whole number, whose bit k is 1 if k is in the set. A state is a set of places, kept likewise.
"""

NUMBERS = 64
ACTION_NUMBERS = 8
# Both are the bit of place 0: as a state it is where runs begin, among the places that come next where they end.
START = 1
END = 1


class Program:
    # actions: the action of each place. onward: for each place the places that come next, with their numbers.
    def __init__(self, actions, onward):
        self.actions = actions
        self.onward = onward


def either(one, other):
    both = dict(one)
    for place in other:
        both[place] = both.get(place, 0) | other[place]
    return both


def narrowed(places, numbers):
    kept = {}
    for place in places:
        if places[place] & numbers:
            kept[place] = places[place] & numbers
    return kept


# The places of the second program go behind those of the first, so that a state of either is a whole number
# whose bits are places, and no state but the empty one is one of both.
def put_together(one, other):
    base = len(one.actions)
    moved = [moved_row(row, base) for row in other.onward]
    return Program(one.actions + other.actions, one.onward + moved)


# Place 0 stays: as what comes next it is the end, and that is the same for both.
def moved_row(row, base):
    moved = {}
    for place in row:
        if place == 0:
            moved[0] = row[0]
        else:
            moved[place + base] = row[place]
    return moved


# Of the program's runs, those that begin with a number of begins and end with one of ends.
def bounded(program, begins, ends):
    onward = [with_ends(row, ends) for row in program.onward]
    onward[0] = narrowed(onward[0], begins)
    return Program(list(program.actions), onward)


def with_ends(row, ends):
    bound = dict(row)
    bound[0] = row[0] & ends
    return bound


def places_at(row, number):
    places = 0
    for place in row:
        if row[place] >> number & 1:
            places |= 1 << place
    return places


# Numbers that lead alike from every place can't be told apart: the first run has only the least of them.
def columns_of(program):
    seen = {}
    columns = []
    for number in range(NUMBERS):
        column = [places_at(row, number) for row in program.onward]
        if tuple(column) not in seen:
            seen[tuple(column)] = True
            columns.append((number, column))
    return columns


def places_by_action(program):
    masks = []
    for action in range(ACTION_NUMBERS):
        mask = 0
        for place, done in enumerate(program.actions):
            if done == action:
                mask |= 1 << place
        if mask > 0:
            masks.append((action, mask))
    return masks


def places_in(state):
    return [place for place in range(state.bit_length()) if state >> place & 1]
