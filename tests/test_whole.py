"""What the document promises over the whole program."""

import contextlib
import inspect
import io
import random
import sys
import unittest

import samerunsdesk.programs
from tests.helpers import LARGEST_MOST


def as_list(text):
    return list(text.encode("latin-1"))


TEXTS = ["A", "!A+B", "(A;a)*;!A", "a+b", "a*;B", "!a", "", "0"]
RUNS = [[0], [1, 0, 0], [0, 1, 0, 0, 2], [64], []]


def some_calls():
    calls = []
    for p in TEXTS:
        for q in TEXTS:
            for most in [LARGEST_MOST, 1, -1]:
                calls.append(("same", (most, as_list(p), as_list(q))))
                calls.append(("under", (most, as_list(p), as_list(q))))
                calls.append(("holds", (most, as_list("B"), as_list(p), as_list(q))))
        for run in RUNS:
            calls.append(("has", (as_list(p), list(run))))
    return calls


def answer_of(call):
    return getattr(samerunsdesk.programs, call[0])(*call[1])


def forget_the_program():
    for name in list(sys.modules):
        if name.split(".")[0] == "samerunsdesk":
            del sys.modules[name]


class Interface(unittest.TestCase):
    def test_names_and_arguments(self):
        wanted = {
            "same": ["most", "p", "q"],
            "under": ["most", "p", "q"],
            "holds": ["most", "t", "p", "u"],
            "has": ["p", "run"],
        }
        for name, arguments in wanted.items():
            signature = inspect.signature(getattr(samerunsdesk.programs, name))
            self.assertEqual(list(signature.parameters), arguments)
            for parameter in signature.parameters.values():
                self.assertIs(parameter.default, inspect.Parameter.empty)

    def test_nothing_is_printed_or_read(self):
        out, err = io.StringIO(), io.StringIO()
        before, sys.stdin = sys.stdin, None
        try:
            with contextlib.redirect_stdout(out), contextlib.redirect_stderr(err):
                for call in some_calls():
                    answer_of(call)
        finally:
            sys.stdin = before
        self.assertEqual(out.getvalue() + err.getvalue(), "")

    def test_a_refusal_stands_alone(self):
        for call in some_calls():
            answer = answer_of(call)
            self.assertTrue(answer[0] >= 0 or len(answer) == 1, call)
            self.assertIn(answer[0] if answer[0] < 0 else 0, [0, -1, -2] + [-3 if call[0] == "has" else -4])
            if call[0] == "has":
                self.assertEqual(len(answer), 1)
                self.assertIn(answer[0], [0, 1, -2, -3])
            elif answer[0] >= 0:
                self.assertEqual(len(answer), answer[0] + 1)


class OneAfterAnother(unittest.TestCase):
    def test_calls_in_any_order_answer_as_each_does_alone(self):
        calls = some_calls()
        alone = []
        kept = {name: sys.modules[name] for name in sys.modules if name.split(".")[0] == "samerunsdesk"}
        try:
            for name, arguments in calls[::7]:
                forget_the_program()
                fresh = __import__("samerunsdesk.programs", fromlist=["programs"])
                alone.append(getattr(fresh, name)(*arguments))
        finally:
            forget_the_program()
            sys.modules.update(kept)
        picked = list(enumerate(calls[::7]))
        for seed in range(3):
            random.Random(seed).shuffle(picked)
            for index, call in picked:
                self.assertEqual(answer_of(call), alone[index], call)

    def test_each_call_twice(self):
        for call in some_calls():
            before = repr(call)
            first = answer_of(call)
            self.assertEqual(answer_of(call), first, call)
            self.assertEqual(repr(call), before)


class OneSaysWhatTheOtherDoes(unittest.TestCase):
    def test_same_is_under_both_ways(self):
        for p in TEXTS:
            for q in TEXTS:
                one = samerunsdesk.programs.under(LARGEST_MOST, as_list(p), as_list(q))
                other = samerunsdesk.programs.under(LARGEST_MOST, as_list(q), as_list(p))
                same = samerunsdesk.programs.same(LARGEST_MOST, as_list(p), as_list(q))
                self.assertEqual(same, min([run for run in [one, other] if run != [0]], default=[0]))

    def test_the_question_with_which_the_document_begins(self):
        first, both = as_list("(A;a)*;!A"), as_list("(A;a)*;!A;(A;b)*;!A")
        self.assertEqual(samerunsdesk.programs.same(0, first, both), [0])
        self.assertEqual(samerunsdesk.programs.under(0, first, both), [0])
        self.assertEqual(samerunsdesk.programs.under(0, both, first), [0])
        self.assertEqual(samerunsdesk.programs.holds(0, as_list("1"), both, as_list("!A")), [0])
        self.assertEqual(samerunsdesk.programs.has(both, [1, 0, 1, 0, 0]), [1])
        self.assertEqual(samerunsdesk.programs.has(both, [1, 1, 0]), [0])


if __name__ == "__main__":
    unittest.main()
