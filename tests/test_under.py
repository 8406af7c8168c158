"""Promise 2: under, with the refusals and what stands ahead of the promises in the document."""

import random
import unittest

import samerunsdesk.programs
from tests import oracle
from tests.helpers import GUARDS, LARGEST_MOST, Unchanging, changed_a_little, random_program, with_few_calls


def under(p, q, most=LARGEST_MOST):
    return samerunsdesk.programs.under(most, list(p.encode("latin-1")), list(q.encode("latin-1")))


class UnderCase(unittest.TestCase):
    def check_under(self, p, q):
        self.assertEqual(under(p, q), [0], (p, q))

    def check_missing(self, p, q, run):
        self.assertEqual(under(p, q), [len(run)] + run, (p, q))


class AllRunsThere(UnderCase):
    def test_a_program_and_itself(self):
        for text in ["0", "1", "A", "a", "a*", "(a;A+b)*;!B", "a;b;c;d;e;f;g;h"]:
            self.check_under(text, text)

    def test_other_texts_of_the_same_runs(self):
        for p, q in [
            ("(A;a)*;!A;(A;b)*;!A", "(A;a)*;!A"),
            ("a+b", "b+a"),
            ("a*", "1+a;a*"),
            ("(a+b)*", "a*;(b;a*)*"),
            ("(A;a+!A;b)*", "(A;a)*;(!A;b;(A;a)*)*"),
            ("!(A;B)", "!A+!B"),
            ("A*", "1"),
        ]:
            self.check_under(p, q)
            self.check_under(q, p)

    def test_the_second_has_more(self):
        for p, q, run in [
            ("0", "1", [0]),
            ("0", "A", [1]),
            ("A;B", "A", [1]),
            ("A", "A+B", [2]),
            ("a", "a+b", [0, 1, 0]),
            ("A;a", "a", [0, 0, 0]),
            ("a;F", "a", [0, 0, 0]),
            ("a", "a*", [0]),
            ("1", "a*", [0, 0, 0]),
            ("(a;a)*", "a*", [0, 0, 0]),
            ("(A;a)*;!A", "(A;a)*", [1]),
            ("(a;b)*", "(a+b)*", [0, 0, 0]),
            ("(a;a;a;a;a;a)*", "(a;a)*", [0] * 5),
        ]:
            self.check_under(p, q)
            self.check_missing(q, p, run)

    def test_what_has_no_runs_is_under_all(self):
        for nothing in ["0", "A;!A", "a;0", "0;a*", "a;(B;!B);b"]:
            for text in ["0", "1", "a", "a*;B", "h;F"]:
                self.check_under(nothing, text)

    def test_all_is_under_any_number_of_all_actions(self):
        everything = "(a+b+c+d+e+f+g+h)*"
        for text in ["0", "1", "A", "h", "(A;a+!A;b)*", "a;b;c;d;e;f;g;h;a;b;c;d", everything]:
            self.check_under(text, everything)


class ARunThatIsMissing(UnderCase):
    def test_nothing_but_numbers(self):
        self.check_missing("1", "0", [0])
        self.check_missing("1", "!A", [1])
        self.check_missing("A", "B", [1])
        self.check_missing("B", "A", [2])
        self.check_missing("A;B;C;D;E;F", "0", [63])
        self.check_missing("1", "!(A;B;C;D;E;F)", [63])

    def test_the_bit_of_each_question(self):
        for bit, question in enumerate("ABCDEF"):
            self.check_missing(question, "0", [1 << bit])
            self.check_missing("1", "!" + question, [1 << bit])

    def test_the_number_of_each_action(self):
        for number, action in enumerate("abcdefgh"):
            self.check_missing(action, "0", [0, number, 0])
            self.check_missing("(a+b+c+d+e+f+g+h)", "+".join(sign for sign in "abcdefgh" if sign != action),
                               [0, number, 0])
            self.check_missing("F;" + action + ";E", "0", [32, number, 16])

    def test_earlier_runs_of_the_second_are_not_told(self):
        self.check_missing("b", "a", [0, 1, 0])
        self.check_missing("a", "b", [0, 0, 0])
        self.check_missing("a", "1", [0, 0, 0])
        self.check_missing("h;F", "1+a*", [0, 7, 32])
        self.check_missing("A;a+B;c", "A;a+B;b", [2, 2, 0])
        self.check_missing("A;a+B;b", "A;a+B;c", [2, 1, 0])
        self.check_missing("F;h;F;h;F", "(a+b+c+d+e+f+g)*", [32, 7, 32, 7, 32])
        self.check_missing("a;a;a", "1+a+a;a", [0] * 7)

    def test_fewer_actions_come_first(self):
        self.check_missing("a+F", "0", [32])
        self.check_missing("a;a+h;F", "0", [0, 7, 32])
        self.check_missing("a;a;a+F;h;F;h;F", "0", [32, 7, 32, 7, 32])

    def test_then_the_first_number_that_differs(self):
        self.check_missing("A;a+b;B", "0", [0, 1, 2])
        self.check_missing("a;A+b", "0", [0, 0, 1])
        self.check_missing("A;a;!A+!A;h;F", "0", [0, 7, 32])
        self.check_missing("a;b;F+a;F;a", "0", [0, 0, 0, 1, 32])
        self.check_missing("a;(B;a+C;b)", "a;B;a", [0, 0, 4, 1, 0])

    def test_how_a_run_ends(self):
        self.check_missing("a;b", "a;A;b", [0, 0, 0, 1, 0])
        self.check_missing("a*", "a*;A", [0])
        self.check_missing("a*", "(a;A)*", [0, 0, 0])
        self.check_missing("a;a*", "a;(A;a)*", [0] * 5)
        self.check_missing("(A;a)*", "(A;a)*;!A", [1])

    def test_neither_is_under_the_other(self):
        for p, q, one, other in [
            ("(a;a)*", "(a;a;a)*", [0] * 5, [0] * 7),
            ("a;A", "B;a", [0, 0, 1], [2, 0, 0]),
            ("(A;a)*", "(B;b)*", [1, 0, 0], [2, 1, 0]),
        ]:
            self.check_missing(p, q, one)
            self.check_missing(q, p, other)

    def test_a_run_through_two_ways_that_meet_again(self):
        # Both ways lead to the same actions of p, and only the later one of them is missing.
        self.check_missing("(A;a+B;b);c;d", "A;a;c;d", [2, 1, 0, 2, 0, 3, 0])
        self.check_missing("(a+b);(a;b)*", "(a;(a;b)*)+b", [0, 1, 0, 0, 0, 1, 0])
        self.check_missing("(a+b);(c+d)", "a;(c+d)+b;c", [0, 1, 0, 3, 0])

    def test_a_run_that_leaves_three_loops_at_once(self):
        three = "(!A;a;(A+!A;a;(A+!A;a;!A)))*;A"
        four = "(!A;a;(A+!A;a;(A+!A;a;(A+!A;a;!A))))*;A"
        five = "(!A;a;(A+!A;a;(A+!A;a;(A+!A;a;(A+!A;a;!A)))))*;A"
        loops = three + "+" + four + "+" + five
        self.check_missing("(!A;a)*;A", loops, [0] * 120 + [1])
        self.assertEqual(under("(!A;a)*;A", loops, 121), [121] + [0] * 120 + [1])
        self.assertEqual(under("(!A;a)*;A", loops, 120), [-4])
        self.check_under(loops, "(!A;a)*;A")


class Most(UnderCase):
    def test_ends_of_its_range(self):
        self.assertEqual(under("a", "a", -1), [-1])
        self.assertEqual(under("a", "a", 0), [0])
        self.assertEqual(under("a", "a", 1048576), [0])
        self.assertEqual(under("a", "a", 1048577), [-1])
        self.assertEqual(under("a", "b", 1048576), [3, 0, 0, 0])

    def test_far_beyond_its_range(self):
        self.assertEqual(under("a", "a", -2147483648), [-1])
        self.assertEqual(under("a", "a", 2147483647), [-1])

    def test_just_enough_and_one_less(self):
        for p, q, run in [
            ("1", "0", [0]),
            ("a", "b", [0, 0, 0]),
            ("a;b", "a;A;b", [0, 0, 0, 1, 0]),
            ("a*", "1+a", [0] * 5),
        ]:
            self.assertEqual(under(p, q, len(run)), [len(run)] + run)
            self.assertEqual(under(p, q, len(run) + 1), [len(run)] + run)
            self.assertEqual(under(p, q, len(run) - 1), [-4])
            self.assertEqual(under(p, q, 0), [-4])

    def test_runs_that_are_all_there_need_no_length(self):
        self.assertEqual(under("a;a", "a*", 0), [0])
        self.assertEqual(under("a", "a;a+a", 0), [0])


class NoProgram(UnderCase):
    WRONG = ["", " ", "A ", "i", "G", "2", "AB", "a;", "+a", "a++b", "()", "(a", "a)", "*", "!a", "!(A*)", "a\0"]

    def test_either_text_is_looked_at(self):
        for text in self.WRONG + ["\xff"]:
            self.assertEqual(under(text, "1"), [-2], text)
            self.assertEqual(under("1", text), [-2], text)
            self.assertEqual(under("0", text), [-2], text)
            self.assertEqual(under(text, text), [-2], text)

    def test_too_much(self):
        for text in [";".join("a" * 13), "(" * 33 + "a" + ")" * 33, "!" * 33 + "A"]:
            self.assertEqual(under(text, "1"), [-2], text)
            self.assertEqual(under("1", text), [-2], text)

    def test_just_not_too_much(self):
        self.assertEqual(under("+".join("a" * 12), "(" * 32 + "a" + ")" * 32), [0])
        self.assertEqual(under("(" * 32 + "a" + ")" * 32, "+".join("a" * 12)), [0])
        self.assertEqual(under("!" * 32 + "A", "A"), [0])


class OrderOfRefusals(UnderCase):
    def test_most_comes_before_programs(self):
        for most in [-1, 1048577, -2147483648, 2147483647]:
            for p, q in [("A+", "A"), ("A", "A+"), ("", ""), ("a", "b"), ("a", "a")]:
                self.assertEqual(under(p, q, most), [-1], (p, q))

    def test_programs_come_before_the_length_of_the_run(self):
        self.assertEqual(under("a", "b", 0), [-4])
        self.assertEqual(under("a", "b+", 0), [-2])
        self.assertEqual(under("!a", "b", 0), [-2])
        self.assertEqual(under("a" + ";a" * 12, "b", 0), [-2])


class HowItIsCalled(UnderCase):
    TEXTS = ["(A;a)*;!A", "(A;a)*;!A;(A;b)*;!A", "a+b", "b", "!a", "", "!!A*"]

    def test_what_is_handed_in_is_not_changed(self):
        for p in self.TEXTS:
            for q in self.TEXTS:
                for most in [-1, 0, 5]:
                    p_list, q_list = Unchanging(p.encode()), Unchanging(q.encode())
                    samerunsdesk.programs.under(most, p_list, q_list)
                    self.assertEqual((list(p_list), list(q_list)), (list(p.encode()), list(q.encode())))

    def test_one_list_for_both(self):
        text = Unchanging(b"(A;a+!A;b)*")
        self.assertEqual(samerunsdesk.programs.under(0, text, text), [0])

    def test_nothing_is_kept(self):
        pairs = [(p, q) for p in self.TEXTS for q in self.TEXTS]
        once = [under(p, q) for p, q in pairs]
        again = [under(p, q) for p, q in reversed(pairs)]
        self.assertEqual(once, again[::-1])

    def test_what_is_given_back_belongs_to_the_caller(self):
        under("a", "b").append(9)
        under("a", "a").append(9)
        self.assertEqual(under("a", "b"), [3, 0, 0, 0])
        self.assertEqual(under("a", "a"), [0])

    def test_kinds_of_what_is_given_back(self):
        for answer in [under("a", "a"), under("F;h", "a"), under("a", "b", 0), under("", "a"), under("a", "b", -1)]:
            self.assertIs(type(answer), list)
            for number in answer:
                self.assertIs(type(number), int)

    def test_names_of_arguments(self):
        self.assertEqual(samerunsdesk.programs.under(most=3, p=[98], q=[97]), [3, 0, 1, 0])

    def test_long_and_deep_texts_need_few_calls_within_one_another(self):
        answers = with_few_calls(lambda: [
            under("!A" + ";A" * 127, "(" * 32 + "0" + ")" * 32),
            under("a" + "*" * 255, "!" * 32 + "1+a*"),
            under("!" * 256, "(" * 256),
            under("a*", "1+a" + ";(1+a" * 11 + ")" * 11),
        ])
        self.assertEqual(answers, [[0], [0], [-2], [27] + [0] * 27])


class ManyStates(UnderCase):
    """The states of such programs are thousands, and pairs of them would be millions."""

    TWELVE_IN_A_ROW = "a*;A;a" + "".join(";" + guard + ";a" for guard in GUARDS)

    def test_all_runs_there(self):
        like_it = "a*;A;a" + "".join(";" + guard + ";(0+a)" for guard in GUARDS)
        self.check_under(self.TWELVE_IN_A_ROW, like_it)
        self.check_under("(" + self.TWELVE_IN_A_ROW + ")*", "(" + like_it + ")*")
        self.check_under(self.TWELVE_IN_A_ROW, "a*")

    def test_each_action_with_each_state(self):
        around = "(" + ";".join("a" * 12) + ")*"
        self.check_under(around, "a*;(1+" + self.TWELVE_IN_A_ROW[3:] + ")")

    def test_states_of_both_that_go_their_own_ways(self):
        backwards = "a*;F;a" + ";a" * 10
        forwards = "a*;A;a" + ";a" * 10
        self.check_missing(backwards, forwards, [32] + [0] * 22)
        self.check_missing(forwards, backwards, [1] + [0] * 22)
        self.check_under(backwards + ";(B+!B)", backwards)

    def test_a_difference_at_the_end(self):
        p = "a*;A;a" + ";a" * 10
        self.check_missing(p, p + ";!(A;B;C)", [1] + [0] * 21 + [7])
        self.check_under(p + ";!(A;B;C)", p)

    def test_the_first_run_beyond_twelve_actions(self):
        self.check_missing("a*", "1+a;(" * 11 + "1+a" + ")" * 11, [0] * 27)


class AgainstTheWordsOfTheDocument(UnderCase):
    MOST_ACTIONS = 3

    def check_pair(self, p, q):
        answer = under(p, q)
        wanted = oracle.first_missing(p, q, range(4), self.MOST_ACTIONS)
        if wanted is not None:
            self.assertEqual(answer, [len(wanted)] + wanted, (p, q))
        else:
            self.assertTrue(answer == [0] or answer[0] > 2 * self.MOST_ACTIONS + 1, (p, q, answer))
        return answer

    def check_both_ways(self, p, q):
        one, other = self.check_pair(p, q), self.check_pair(q, p)
        told = [run for run in [one, other] if run != [0]]
        same = samerunsdesk.programs.same(LARGEST_MOST, list(p.encode()), list(q.encode()))
        self.assertEqual(same, min(told, default=[0]), (p, q))
        return [one[0], other[0]]

    def test_random_programs(self):
        source = random.Random(22)
        seen = []
        for turn in range(250):
            seen += self.check_both_ways(random_program(source, 3), random_program(source, 3))
        self.assertTrue(all(length in seen for length in [0, 1, 3, 5]), seen)

    def test_random_programs_changed_a_little(self):
        source = random.Random(23)
        seen = []
        for turn in range(250):
            p = random_program(source, 4)
            seen += self.check_both_ways(p, changed_a_little(source, p))
        self.assertTrue(all(length in seen for length in [0, 1, 3, 5, 7]), seen)


if __name__ == "__main__":
    unittest.main()
