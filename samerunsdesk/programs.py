"""What is asked of programs: whether one has the runs of another, ends where a test holds, or has a run."""

from samerunsdesk.reading import ALL_NUMBERS
from samerunsdesk.reading import WrongText
from samerunsdesk.reading import read_program
from samerunsdesk.reading import read_test
from samerunsdesk.runs import has_run
from samerunsdesk.runs import is_run
from samerunsdesk.searching import Differing
from samerunsdesk.searching import Missing
from samerunsdesk.searching import first_run
from samerunsdesk.tables import START
from samerunsdesk.tables import bounded
from samerunsdesk.tables import put_together

MOST_MOST = 1048576


def is_most(most):
    return 0 <= most and most <= MOST_MOST


def answer(run, most):
    if run is None:
        return [0]
    if len(run) > most:
        return [-4]
    return [len(run)] + run


def compared(most, p, q, pairs):
    if not is_most(most):
        return [-1]
    try:
        one = read_program(p)
        other = read_program(q)
    except WrongText:
        return [-2]
    run = first_run(put_together(one, other), pairs, START, START << len(one.actions))
    return answer(run, most)


def same(most, p, q):
    return compared(most, p, q, Differing())


def under(most, p, q):
    return compared(most, p, q, Missing())


def holds(most, t, p, u):
    if not is_most(most):
        return [-1]
    try:
        begins = read_test(t)
        program = read_program(p)
        wanted = read_test(u)
    except WrongText:
        return [-2]
    # State 0 has no runs, so every run that breaks what is asked is one that it hasn't.
    breaking = bounded(program, begins, ALL_NUMBERS ^ wanted)
    return answer(first_run(breaking, Missing(), START, 0), most)


def has(p, run):
    try:
        program = read_program(p)
    except WrongText:
        return [-2]
    if not is_run(run):
        return [-3]
    return [1 if has_run(program, run) else 0]
