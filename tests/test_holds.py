"""Promise 3: holds, with the refusals and what stands ahead of the promises in the document."""

import random
import unittest

import samerunsdesk.programs
from tests import oracle
from tests.helpers import GUARDS, LARGEST_MOST, Unchanging, random_program, random_test, with_few_calls


def holds(t, p, u, most=LARGEST_MOST):
    t_list, p_list, u_list = [list(text.encode("latin-1")) for text in [t, p, u]]
    return samerunsdesk.programs.holds(most, t_list, p_list, u_list)


class HoldsCase(unittest.TestCase):
    def check_holds(self, t, p, u):
        self.assertEqual(holds(t, p, u), [0], (t, p, u))

    def check_breaks(self, t, p, u, run):
        self.assertEqual(holds(t, p, u), [len(run)] + run, (t, p, u))


class NoRunTells(HoldsCase):
    def test_a_loop_ends_where_its_last_test_holds(self):
        self.check_holds("1", "(A;a)*;!A", "!A")
        self.check_holds("A", "(A;a)*;!A", "!A")
        self.check_holds("1", "(A;a)*;!A;(A;b)*;!A", "!A")
        self.check_holds("B", "(A;(a;B+b;C))*;!A", "!A;(B+C)")
        self.check_holds("1", "((A;a)*;!A;(B;b)*;!B;c)*;F", "F")

    def test_what_a_loop_keeps(self):
        self.check_holds("B", "(A;a;B)*", "B")
        self.check_holds("B", "(A;a;B)*;!A", "B;!A")
        self.check_holds("C;D", "(a;C;D+b;D;C)*", "C;D")

    def test_where_nothing_begins(self):
        self.check_holds("0", "a", "0")
        self.check_holds("A;!A", "a*", "0")
        self.check_holds("A", "!A;a", "0")
        self.check_holds("!F", "F;(a+b)*", "0")

    def test_where_nothing_runs(self):
        for nothing in ["0", "A;!A", "a;0", "0;a*", "a;(B;!B);b"]:
            self.check_holds("1", nothing, "0")

    def test_where_every_end_is_well(self):
        self.check_holds("1", "(a+b)*", "1")
        self.check_holds("A", "a", "B+!B")

    def test_each_way_is_well(self):
        self.check_holds("A+B", "A;a;C+B;b;D+!A;!B;h", "C+D")


class ARunTells(HoldsCase):
    def test_after_an_action_anything_may_hold(self):
        self.check_breaks("A", "a", "A", [1, 0, 0])
        self.check_breaks("A", "a", "!A", [1, 0, 1])
        self.check_breaks("1", "a", "0", [0, 0, 0])
        self.check_breaks("F;E", "h", "!(A;B)", [48, 7, 3])

    def test_without_its_last_test_a_loop_ends_anywhere(self):
        self.check_breaks("1", "(A;a)*", "!A", [1])
        self.check_breaks("!A", "a;(A;a)*", "!A", [0, 0, 1])
        self.check_breaks("B", "(A;a;B)*;a", "B", [2, 0, 0])
        self.check_breaks("1", "((A;a)*;!A)*", "!A", [1])

    def test_what_a_loop_keeps_is_not_there_from_the_beginning(self):
        self.check_breaks("1", "(A;a;B)*", "B", [0])
        self.check_breaks("A", "(A;a;B)*", "B", [1])
        self.check_breaks("A;!B", "(A;a;B)*;(1+b)", "B", [1])

    def test_one_way_of_several(self):
        self.check_breaks("A+B", "A;a;C+B;b;D+!A;!B;h", "C", [2, 1, 8])
        self.check_breaks("A+B", "A;a;C+B;b;D+!A;!B;h", "D", [1, 0, 4])
        self.check_breaks("1", "A;a;C+B;b;D+!A;!B;h", "C+D", [0, 7, 0])

    def test_what_begins_where_the_first_test_does_not_hold_is_not_told(self):
        self.check_breaks("F", "a", "1;!E", [32, 0, 16])
        self.check_breaks("A", "a*", "B", [1])
        self.check_breaks("B;C", "a*", "B", [6, 0, 0])

    def test_what_ends_where_the_second_test_holds_is_not_told(self):
        self.check_breaks("1", "a*", "!F", [32])
        self.check_breaks("!F", "a*", "!F", [0, 0, 32])
        self.check_breaks("!F", "(a;!F;b)*", "!F", [0, 0, 0, 1, 32])

    def test_each_question(self):
        for bit, question in enumerate("ABCDEF"):
            self.check_breaks(question, "a", "0", [1 << bit, 0, 0])
            self.check_breaks("1", "a", "!" + question, [0, 0, 1 << bit])

    def test_each_action(self):
        for number, action in enumerate("abcdefgh"):
            self.check_breaks("E", action, "!F", [16, number, 32])


class RunsOfOneNumber(HoldsCase):
    def test_both_tests_are_asked_of_the_same_number(self):
        self.check_holds("A", "1", "A")
        self.check_holds("A;B", "1", "A")
        self.check_holds("A", "B", "A;B")
        self.check_breaks("A", "1", "B", [1])
        self.check_breaks("A+B", "1", "A", [2])
        self.check_breaks("A", "B", "C", [3])
        self.check_breaks("A;F", "1", "!E+!D", [57])

    def test_all_three_hold_or_not(self):
        texts = ["0", "1", "A", "!A", "B", "A;B", "A+!B"]
        for t in texts:
            for p in texts:
                for u in texts:
                    wanted = oracle.first_breach(t, p, u, range(64), 0)
                    self.assertEqual(holds(t, p, u), [0] if wanted is None else [1] + wanted, (t, p, u))

    def test_a_loop_that_does_nothing(self):
        self.check_holds("A", "a*;!A", "!A")
        self.check_breaks("A", "a*", "!A", [1])
        self.check_breaks("A", "0*", "!A", [1])
        self.check_breaks("A", "!A*", "!A", [1])

    def test_63_is_told(self):
        self.check_breaks("A;B;C;D;E;F", "1", "0", [63])
        self.check_breaks("1", "1", "!(A;B;C;D;E;F)", [63])


class WhichRunIsFirst(HoldsCase):
    def test_fewer_actions_come_first(self):
        self.check_breaks("1", "a+F", "0", [32])
        self.check_breaks("1", "a;a+h;F", "0", [0, 7, 32])
        self.check_breaks("F", "a;a;a+h;F;h;F", "!F", [32, 7, 32, 7, 32])

    def test_then_the_first_number_that_differs(self):
        self.check_breaks("1", "A;a+b;B", "0", [0, 1, 2])
        self.check_breaks("1", "a;A+b", "0", [0, 0, 1])
        self.check_breaks("1", "A;a;!A+!A;h;F", "0", [0, 7, 32])
        self.check_breaks("1", "a;b;F+a;F;a", "0", [0, 0, 0, 1, 32])

    def test_a_first_number_comes_before_what_ends_less(self):
        self.check_breaks("A+B", "A;a;F+B;a", "0", [1, 0, 32])
        self.check_breaks("A+B", "A;h+B;a", "A", [1, 7, 0])

    def test_a_long_way_round(self):
        way = "a;A;b;B;c;C;d;D;e;E;f;F;g"
        self.check_breaks("1", way, "!A", [0, 0, 1, 1, 2, 2, 4, 3, 8, 4, 16, 5, 32, 6, 1])

    def test_a_longer_run_where_the_short_ones_are_well(self):
        self.check_breaks("!A", "(!A;a)*", "!A", [0, 0, 1])
        self.check_breaks("!A", "1+a;!A;(a;!A;(1+a))", "!A", [0, 0, 0, 0, 0, 0, 1])


class Most(HoldsCase):
    def test_ends_of_its_range(self):
        self.assertEqual(holds("A", "1", "A", -1), [-1])
        self.assertEqual(holds("A", "1", "A", 0), [0])
        self.assertEqual(holds("A", "1", "A", 1048576), [0])
        self.assertEqual(holds("A", "1", "A", 1048577), [-1])
        self.assertEqual(holds("A", "a", "A", 1048576), [3, 1, 0, 0])

    def test_far_beyond_its_range(self):
        self.assertEqual(holds("A", "1", "A", -2147483648), [-1])
        self.assertEqual(holds("A", "1", "A", 2147483647), [-1])

    def test_just_enough_and_one_less(self):
        for t, p, u, run in [
            ("A", "1", "B", [1]),
            ("A", "a", "B", [1, 0, 0]),
            ("!A", "1+a;!A;b", "!A", [0, 0, 0, 1, 1]),
            ("1", ";".join("a" * 12), "!F", [0] * 24 + [32]),
        ]:
            self.assertEqual(holds(t, p, u, len(run)), [len(run)] + run)
            self.assertEqual(holds(t, p, u, len(run) + 1), [len(run)] + run)
            self.assertEqual(holds(t, p, u, len(run) - 1), [-4])
            self.assertEqual(holds(t, p, u, 0), [-4])

    def test_what_holds_needs_no_length(self):
        self.assertEqual(holds("1", "(A;a)*;!A", "!A", 0), [0])


class WrongTexts(HoldsCase):
    NO_PROGRAMS = ["", " ", "A ", "i", "G", "2", "AB", "A;", "+A", "A++B", "()", "(A", "A)", "*", "!a", "!(A*)", "A\0"]
    NO_TESTS = ["a", "A;a", "a;0", "0;a", "0+h", "(a)", "A*", "0*", "1*", "(A)*", "!A*", "A;B*", "a*", "(A;(B*))"]
    TESTS = ["0", "1", "A", "F", "!A", "!!A", "(A)", "!(A;B)", "A;B+!C", "(A+B);(C+!(D;E))", "!0", "!(1)"]

    def check_wrong(self, t, p, u):
        for most in [0, LARGEST_MOST]:
            self.assertEqual(holds(t, p, u, most), [-2], (t, p, u))

    def test_no_programs(self):
        for text in self.NO_PROGRAMS + ["\xff"]:
            self.check_wrong(text, "a", "A")
            self.check_wrong("A", text, "A")
            self.check_wrong("A", "a", text)
            self.check_wrong(text, text, text)

    def test_programs_that_are_no_tests(self):
        for text in self.NO_TESTS:
            self.assertNotEqual(holds("1", text, "1"), [-2], text)
            self.check_wrong(text, "a", "A")
            self.check_wrong("A", "a", text)
            self.check_wrong(text, "a", text)
            self.check_wrong(text, text, "1")
            self.check_wrong("0", "0", text)
            self.check_wrong(text, "0", "1")

    def test_tests(self):
        for text in self.TESTS:
            self.assertNotEqual(holds(text, "a", text), [-2], text)
            self.check_holds(text, text, text)

    def test_too_much(self):
        for text in ["(" * 33 + "A" + ")" * 33, "!" * 33 + "A", "!(" * 16 + "!A" + ")" * 16]:
            self.check_wrong(text, "a", "A")
            self.check_wrong("A", text, "A")
            self.check_wrong("A", "a", text)
        self.check_wrong("A", ";".join("a" * 13), "A")

    def test_just_not_too_much(self):
        brackets, nots = "(" * 32 + "A" + ")" * 32, "!" * 32 + "A"
        self.check_holds(brackets, "1", nots)
        self.check_holds(nots, brackets, brackets)
        self.check_breaks(brackets, ";".join("a" * 12), brackets, [1] + [0] * 24)
        long_test = "A" + "+A" * 127
        self.check_holds(long_test, "(" * 32 + "a" + ")" * 32 + ";" + brackets, long_test)

    def test_texts_of_256_bytes(self):
        text = "!A" + ";B" * 127
        self.assertEqual(len(text), 256)
        self.check_holds(text, text, text)
        self.check_breaks(text, "a", text, [2, 0, 0])
        self.check_wrong("A" + "+A" * 127 + "*", "a", "A")


class OrderOfRefusals(HoldsCase):
    def test_most_comes_before_texts(self):
        for most in [-1, 1048577, -2147483648, 2147483647]:
            for t, p, u in [("A+", "a", "A"), ("A", "a+", "A"), ("A", "a", "A+"), ("a", "a", "A"), ("A", "a", "A*"),
                            ("", "", ""), ("A", "a", "A"), ("A", "1", "A")]:
                self.assertEqual(holds(t, p, u, most), [-1], (t, p, u))

    def test_texts_come_before_the_length_of_the_run(self):
        self.assertEqual(holds("A", "a", "A", 0), [-4])
        self.assertEqual(holds("A*", "a", "A", 0), [-2])
        self.assertEqual(holds("A", "a", "A;a", 0), [-2])
        self.assertEqual(holds("A", "!a", "A", 0), [-2])


class HowItIsCalled(HoldsCase):
    TEXTS = ["(A;a)*;!A", "A", "!A+B", "a+b", "!a", "", "!!A*"]

    def triples(self):
        return [(t, p, u) for t in self.TEXTS for p in self.TEXTS for u in self.TEXTS]

    def test_what_is_handed_in_is_not_changed(self):
        for texts in self.triples():
            for most in [-1, 0, 5]:
                lists = [Unchanging(text.encode()) for text in texts]
                samerunsdesk.programs.holds(most, lists[0], lists[1], lists[2])
                self.assertEqual([list(one) for one in lists], [list(text.encode()) for text in texts])

    def test_one_list_for_all(self):
        text = Unchanging(b"A+!(B;C)")
        self.assertEqual(samerunsdesk.programs.holds(0, text, text, text), [0])

    def test_nothing_is_kept(self):
        once = [holds(t, p, u) for t, p, u in self.triples()]
        again = [holds(t, p, u) for t, p, u in reversed(self.triples())]
        self.assertEqual(once, again[::-1])

    def test_what_is_given_back_belongs_to_the_caller(self):
        holds("A", "a", "A").append(9)
        holds("A", "1", "A").append(9)
        self.assertEqual(holds("A", "a", "A"), [3, 1, 0, 0])
        self.assertEqual(holds("A", "1", "A"), [0])

    def test_kinds_of_what_is_given_back(self):
        for answer in [holds("A", "1", "A"), holds("A", "F;h", "!E"), holds("A", "a", "A", 0), holds("a", "a", "A"),
                       holds("A", "a", "A", -1)]:
            self.assertIs(type(answer), list)
            for number in answer:
                self.assertIs(type(number), int)

    def test_names_of_arguments(self):
        self.assertEqual(samerunsdesk.programs.holds(most=3, t=[66], p=[98], u=[65]), [3, 2, 1, 0])

    def test_long_and_deep_texts_need_few_calls_within_one_another(self):
        deep = "(" * 32 + "A" + ")" * 32
        answers = with_few_calls(lambda: [
            holds("!A" + ";A" * 127, "a" + "*" * 255, deep),
            holds("!" * 32 + "A", deep + ";a", "A" + ";A" * 127),
            holds("!" * 256, "(" * 256, ")" * 256),
        ])
        self.assertEqual(answers, [[0], [3, 1, 0, 0], [-2]])

    def test_many_states(self):
        text = "a*;A;a" + "".join(";" + guard + ";a" for guard in GUARDS)
        self.check_holds("B", "(" + text + ";B)*", "B")
        self.check_holds("B", text + ";C", "C")


class AgainstTheWordsOfTheDocument(HoldsCase):
    MOST_ACTIONS = 3

    def check_triple(self, t, p, u):
        answer = holds(t, p, u)
        wanted = oracle.first_breach(t, p, u, range(4), self.MOST_ACTIONS)
        if wanted is not None:
            self.assertEqual(answer, [len(wanted)] + wanted, (t, p, u))
        else:
            self.assertTrue(answer == [0] or answer[0] > 2 * self.MOST_ACTIONS + 1, (t, p, u, answer))
        # What holds says of t, p and u, under says of t;p;!u and a program without runs.
        around = "({});({});!({})".format(t, p, u)
        self.assertEqual(samerunsdesk.programs.under(LARGEST_MOST, list(around.encode()), [48]), answer, around)
        return answer[0]

    def test_random_texts(self):
        source = random.Random(24)
        seen = []
        for turn in range(500):
            t, u = random_test(source, 2), random_test(source, 2)
            seen.append(self.check_triple(t, random_program(source, 4), u))
        self.assertTrue(all(length in seen for length in [0, 1, 3, 5]), seen)


if __name__ == "__main__":
    unittest.main()
