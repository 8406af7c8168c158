"""Which programs have the same runs, which has runs that another hasn't, and the first such run."""

from samerunsdesk.reading import NotAProgram
from samerunsdesk.reading import read_program
from samerunsdesk.searching import Differing
from samerunsdesk.searching import Missing
from samerunsdesk.searching import first_run
from samerunsdesk.tables import put_together

MOST_MOST = 1048576


def compared(most, p, q, pairs):
    if most < 0 or most > MOST_MOST:
        return [-1]
    try:
        one = read_program(p)
        other = read_program(q)
    except NotAProgram:
        return [-2]
    run = first_run(put_together(one, other), pairs, 1, 1 << len(one.actions))
    return answer(run, most)


def answer(run, most):
    if run is None:
        return [0]
    if len(run) > most:
        return [-4]
    return [len(run)] + run


def same(most, p, q):
    return compared(most, p, q, Differing())


def under(most, p, q):
    return compared(most, p, q, Missing())
