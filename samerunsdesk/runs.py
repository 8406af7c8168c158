"""What is a run, and whether a program has one that is told."""

from samerunsdesk.tables import ACTION_NUMBERS
from samerunsdesk.tables import END
from samerunsdesk.tables import NUMBERS
from samerunsdesk.tables import START
from samerunsdesk.tables import places_at
from samerunsdesk.tables import places_by_action
from samerunsdesk.tables import places_in


# Numbers stand at the even indexes of a run, actions at the odd ones.
def is_number_at(index):
    return index % 2 == 0


def is_run(row):
    for index, byte in enumerate(row):
        if byte >= (NUMBERS if is_number_at(index) else ACTION_NUMBERS):
            return False
    return len(row) % 2 == 1


def has_run(program, run):
    masks = dict(places_by_action(program))
    state = START
    ahead = 0
    for index, byte in enumerate(run):
        if is_number_at(index):
            ahead = places_ahead(program, state, byte)
        else:
            state = ahead & masks.get(byte, 0)
    return ahead & END > 0


def places_ahead(program, state, number):
    found = 0
    for place in places_in(state):
        found |= places_at(program.onward[place], number)
    return found
