"""Promise 1: same, with the refusals and what stands ahead of the promises in the document."""

import random
import unittest

import samerunsdesk.programs
from tests import oracle
from tests.helpers import GUARDS, LARGEST_MOST, Unchanging, changed_a_little, random_program, with_few_calls


def same(p, q, most=LARGEST_MOST):
    return samerunsdesk.programs.same(most, list(p.encode("latin-1")), list(q.encode("latin-1")))


class SameCase(unittest.TestCase):
    def check_same(self, p, q):
        self.check(p, q, [0])

    def check_differ(self, p, q, run):
        self.check(p, q, [len(run)] + run)

    def check_no_program(self, text):
        self.check(text, "1", [-2])
        self.check(text, text, [-2])

    def check(self, p, q, answer):
        self.assertEqual(same(p, q), answer, (p, q))
        self.assertEqual(same(q, p), answer, (q, p))


class SameRuns(SameCase):
    def test_the_example_with_which_the_document_begins(self):
        self.check_same("(A;a)*;!A;(A;b)*;!A", "(A;a)*;!A")

    def test_a_program_and_itself(self):
        for text in ["0", "1", "A", "a", "a*", "(a;A+b)*;!B", "a;b;c;d;e;f;g;h"]:
            self.check_same(text, text)

    def test_laws_of_actions(self):
        self.check_same("a+b", "b+a")
        self.check_same("a+a", "a")
        self.check_same("a+0", "a")
        self.check_same("a;1", "a")
        self.check_same("1;a", "a")
        self.check_same("a;0", "0")
        self.check_same("0;a", "0")
        self.check_same("a;(b+c)", "a;b+a;c")
        self.check_same("(a+b);c", "a;c+b;c")

    def test_laws_of_stars(self):
        self.check_same("a*", "1+a;a*")
        self.check_same("a*", "1+a*;a")
        self.check_same("a*;a*", "a*")
        self.check_same("(a+b)*", "a*;(b;a*)*")
        self.check_same("(a;b)*;a", "a;(b;a)*")
        self.check_same("(1+a)*", "a*")
        self.check_same("(a;a)*;(1+a)", "a*")

    def test_laws_of_tests(self):
        self.check_same("A;B", "B;A")
        self.check_same("A;A", "A")
        self.check_same("A+!A", "1")
        self.check_same("A;!A", "0")
        self.check_same("!(A;B)", "!A+!B")
        self.check_same("!(A+B)", "!A;!B")
        self.check_same("A+B;C", "(A+B);(A+C)")
        self.check_same("!0", "1")
        self.check_same("!1", "0")

    def test_laws_of_tests_and_actions(self):
        self.check_same("A;a+!A;a", "a")
        self.check_same("a;A+a;!A", "a")
        self.check_same("A;a;B;!B", "0")
        self.check_same("(A;a)*;!A", "!A+A;a;(A;a)*;!A")
        self.check_same("(A;a+!A;b)*", "(A;a)*;(!A;b;(A;a)*)*")

    def test_a_test_in_a_loop_adds_nothing(self):
        for text in ["0*", "1*", "A*", "(A;B)*", "(!A)*", "(1+A)*"]:
            self.check_same(text, "1")

    def test_the_last_questions_loop(self):
        self.check_same("(F;h)*;!F;(F;g)*;!F", "(F;h)*;!F")


class RunsThatDiffer(SameCase):
    def test_nothing_but_numbers(self):
        self.check_differ("0", "1", [0])
        self.check_differ("A", "1", [0])
        self.check_differ("A", "B", [1])
        self.check_differ("A;B;C;D;E;F", "0", [63])

    def test_the_bit_of_each_question(self):
        for bit, question in enumerate("ABCDEF"):
            self.check_differ(question, "0", [1 << bit])
            self.check_differ("!" + question, "1", [1 << bit])

    def test_the_number_of_each_action(self):
        for number, action in enumerate("abcdefgh"):
            self.check_differ(action, "0", [0, number, 0])
            self.check_differ("F;" + action + ";E", "0", [32, number, 16])

    def test_both_sides_may_have_the_run(self):
        self.assertEqual(same("a+b", "a"), [3, 0, 1, 0])
        self.assertEqual(same("a", "a+b"), [3, 0, 1, 0])

    def test_fewer_actions_come_first(self):
        self.check_differ("a+F", "0", [32])
        self.check_differ("a;a+h;F", "0", [0, 7, 32])
        self.check_differ("a;a;a+F;h;F;h;F", "0", [32, 7, 32, 7, 32])

    def test_then_the_first_number_that_differs(self):
        self.check_differ("A;a", "b;B", [0, 1, 2])
        self.check_differ("a;A+b", "0", [0, 0, 1])
        self.check_differ("A;a;!A+!A;h;F", "0", [0, 7, 32])
        self.check_differ("a;b;F+a;F;a", "0", [0, 0, 0, 1, 32])
        self.check_differ("a;(B;a+C;b)", "a;B;a", [0, 0, 4, 1, 0])

    def test_the_first_run_may_be_the_other_ones(self):
        self.check_differ("A;a+B;b", "A;a+B;c", [2, 1, 0])
        self.check_differ("(A;a)*;!A;(A;b)*;!A", "(A;b)*;!A", [1, 0, 0])

    def test_how_a_run_ends(self):
        self.check_differ("a;A;b", "a;b", [0, 0, 0, 1, 0])
        self.check_differ("a*;A", "a*", [0])
        self.check_differ("(a;A)*", "a*", [0, 0, 0])
        self.check_differ("(A;a)*", "a*", [0, 0, 0])
        self.check_differ("a;(A;a)*", "a;a*", [0, 0, 0, 0, 0])

    def test_loops_of_other_lengths(self):
        self.check_differ("a*", "1+a", [0] * 5)
        self.check_differ("(a;a)*", "a*", [0] * 3)
        self.check_differ("(a;a)*", "(a;a;a)*", [0] * 5)
        self.check_differ("1+a;(a;a)*+a;(1+a);(a;a;a)*", "a*", [0] * 13)

    def test_a_run_that_leaves_three_loops_at_once(self):
        three = "(!A;a;(A+!A;a;(A+!A;a;!A)))*;A"
        four = "(!A;a;(A+!A;a;(A+!A;a;(A+!A;a;!A))))*;A"
        five = "(!A;a;(A+!A;a;(A+!A;a;(A+!A;a;(A+!A;a;!A)))))*;A"
        loops = three + "+" + four + "+" + five
        self.check_differ("(!A;a)*;A", loops, [0] * 120 + [1])
        self.assertEqual(same("(!A;a)*;A", loops, 121), [121] + [0] * 120 + [1])
        self.assertEqual(same("(!A;a)*;A", loops, 120), [-4])


class HowSignsBind(SameCase):
    def test_star_binds_more_than_the_others(self):
        self.check_same("a;b*", "a;(b*)")
        self.check_differ("a;b*", "(a;b)*", [0])
        self.check_same("a+b*", "a+(b*)")
        self.check_differ("a+b*", "(a+b)*", [0, 0, 0, 0, 0])

    def test_semicolon_binds_more_than_plus(self):
        self.check_same("a+b;c", "a+(b;c)")
        self.check_differ("a+b;c", "(a+b);c", [0, 0, 0])
        self.check_same("a;b+c", "(a;b)+c")
        self.check_differ("a;b+c", "a;(b+c)", [0, 2, 0])
        self.check_same("a;b+c;d", "(a;b)+(c;d)")
        self.check_same("A+B;C", "A+(B;C)")

    def test_not_takes_what_stands_right_behind_it(self):
        self.check_same("!A;B", "(!A);B")
        self.check_differ("!A;B", "!(A;B)", [0])
        self.check_same("!A+B", "(!A)+B")
        self.check_differ("!A+B", "!(A+B)", [2])
        self.check_same("!A*", "(!A)*")
        self.check_same("!(A+B)*", "1")
        self.check_same("!A;a", "(!A);a")

    def test_not_of_not(self):
        self.check_same("!!A", "A")
        self.check_same("!!!A", "!A")
        self.check_same("!(!(!A))", "!A")
        self.check_same("!!(A;B)", "A;B")
        self.check_same("!!A*", "1")

    def test_the_same_from_either_side(self):
        self.check_same("(a;b);c", "a;(b;c)")
        self.check_same("a;b;c", "a;(b;c)")
        self.check_same("(a+b)+c", "a+(b+c)")
        self.check_same("a+b+c", "a+(b+c)")

    def test_star_upon_star(self):
        self.check_same("a**", "a*")
        self.check_same("a***;b", "a*;b")
        self.check_same("((a*)*)*", "a*")

    def test_brackets_that_change_nothing(self):
        self.check_same("((a));((b)+(c))", "a;b+a;c")
        self.check_same("(((A)))", "A")


class Most(SameCase):
    def test_ends_of_its_range(self):
        self.assertEqual(same("a", "a", -1), [-1])
        self.assertEqual(same("a", "a", 0), [0])
        self.assertEqual(same("a", "a", 1048576), [0])
        self.assertEqual(same("a", "a", 1048577), [-1])
        self.assertEqual(same("a", "b", 1048576), [3, 0, 0, 0])

    def test_far_beyond_its_range(self):
        self.assertEqual(same("a", "a", -2147483648), [-1])
        self.assertEqual(same("a", "a", 2147483647), [-1])

    def test_just_enough_and_one_less(self):
        for p, q, run in [
            ("0", "1", [0]),
            ("a", "b", [0, 0, 0]),
            ("a;A;b", "a;b", [0, 0, 0, 1, 0]),
            ("a*", "1+a", [0] * 5),
        ]:
            self.assertEqual(same(p, q, len(run)), [len(run)] + run)
            self.assertEqual(same(p, q, len(run) + 1), [len(run)] + run)
            self.assertEqual(same(p, q, len(run) - 1), [-4])
            self.assertEqual(same(p, q, 0), [-4])

    def test_same_runs_need_no_length(self):
        self.assertEqual(same("a*;a*", "a*", 0), [0])


class HowMuchAProgramMayHold(SameCase):
    def test_twelve_actions_and_thirteen(self):
        twelve = ";".join("abcdefghabcd")
        thirteen = twelve + ";e"
        self.check_same(twelve, twelve)
        self.check_same("(" + twelve + ")*", "1+(" + twelve + ")*")
        self.check_no_program(thirteen)
        self.check(thirteen, twelve, [-2])
        self.check_no_program("+".join("a" * 13))
        self.check_same("+".join("a" * 12), "a")
        self.check_no_program("0;(" + "+".join("a" * 13) + ")")

    def test_the_first_run_beyond_twelve_actions(self):
        up_to_twelve = "1+a;(" * 11 + "1+a" + ")" * 11
        self.check_differ(up_to_twelve, "a*", [0] * 27)

    def test_brackets_in_31_others_and_in_32(self):
        self.check_same("(" * 32 + "a" + ")" * 32, "a")
        self.check_no_program("(" * 33 + "a" + ")" * 33)

    def test_not_in_31_others_and_in_32(self):
        self.check_same("!" * 32 + "A", "A")
        self.check_same("!" * 31 + "A", "!A")
        self.check_no_program("!" * 33 + "A")

    def test_brackets_and_not_mixed(self):
        self.check_same("!(" * 16 + "A" + ")" * 16, "A")
        self.check_no_program("!(" * 16 + "!A" + ")" * 16)
        self.check_no_program("!(" * 16 + "(A)" + ")" * 16)
        self.check_same("(!" * 16 + "A" + ")" * 16, "A")
        self.check_no_program("(!" * 16 + "(A)" + ")" * 16)
        self.check_same("(" * 31 + "!A" + ")" * 31, "!A")
        self.check_no_program("(" * 32 + "!A" + ")" * 32)

    def test_side_by_side_is_not_deep(self):
        self.check_same(";".join(["(A)"] * 40), "A")
        self.check_same(";".join(["!A"] * 40), "!A")
        self.check_same("(" * 31 + "(A);!B;!C*;(a)" + ")" * 31, "A;!B;a")
        self.check_same("!" * 31 + "(A)" + ";(A)" * 20, "0")

    def test_texts_of_0_and_of_256_bytes(self):
        self.check_no_program("")
        self.check(("!A" + ";A" * 127), "0", [0])
        self.check_same("A" + "+A" * 127 + "*", "1")
        self.check_same("a" + "*" * 255, "a*")
        self.check_differ("!A" + "+B" * 127, "!A", [3])
        for text in ["(" * 256, "!" * 256, ")" * 256, "*" * 256, "A" * 256, "A;" * 128, "(" * 128 + ")" * 128]:
            self.assertEqual(len(text), 256)
            self.check_no_program(text)


class NoProgram(SameCase):
    def test_each_byte_by_itself(self):
        for byte in range(256):
            answer = samerunsdesk.programs.same(LARGEST_MOST, [byte], [byte])
            is_program = byte in b"01ABCDEFabcdefgh"
            self.assertEqual(answer, [0] if is_program else [-2], byte)

    def test_each_byte_between_others(self):
        for byte in range(256):
            text = list(b"(A") + [byte] + list(b"B)")
            answer = samerunsdesk.programs.same(LARGEST_MOST, text, text)
            self.assertEqual(answer, [0] if byte in b";+" else [-2], byte)

    def test_blanks(self):
        for text in [" ", " A", "A ", "A ;B", "A; B", "A\n", "\tA", "a b", "( A)", "A\0"]:
            self.check_no_program(text)

    def test_signs_not_named(self):
        for text in ["2", "G", "i", "AG", "a;i", "A|B", "A&B", "~A", "-A", "a^", "[a]", "{a}", "a.b", "\xe4", "\xff"]:
            self.check_no_program(text)

    def test_brackets_that_do_not_match(self):
        for text in ["(", ")", "()", "(A", "A)", "(A))", "((A)", ")A(", "(A;(B)", "A;)B("]:
            self.check_no_program(text)
        for text in ["(A;)", "(;A)", "!(A", "!()"]:
            self.check_no_program(text)

    def test_parts_that_are_missing(self):
        for text in ["*", ";", "+", "!", "*A", ";A", "+A", "A;", "A+", "A;;B", "A++B", "A;+B", "A+;B", "A+*", "A;*"]:
            self.check_no_program(text)
        for text in ["(*)", "(a)+(*a)", "!*", "!;A", "!+A", "A;!", "(!)", "!!"]:
            self.check_no_program(text)

    def test_signs_that_are_missing(self):
        for text in ["AB", "ab", "Aa", "a1", "A(B)", "(A)B", "(A)(B)", "A!", "A!B", "a*b", "a*(b)", "(a)!A", "a*!A"]:
            self.check_no_program(text)

    def test_not_ahead_of_what_is_no_test(self):
        for text in ["!a", "!!a", "!(a)", "!(A;a)", "!(a;0)", "!(0;a)", "!(A*)", "!(1*)", "!(A+B*)"]:
            self.check_no_program(text)
        for text in ["!!(a)", "!(!(A)*)", "b+!a", "(!a)*", "!((A);(a))", "!((A*))", "!(0+(b))"]:
            self.check_no_program(text)

    def test_either_text_is_looked_at(self):
        self.assertEqual(same("A+", "A"), [-2])
        self.assertEqual(same("A", "A+"), [-2])
        self.assertEqual(same("A+", "A+"), [-2])


class OrderOfRefusals(SameCase):
    def test_most_comes_before_programs(self):
        for most in [-1, 1048577, -2147483648, 2147483647]:
            self.assertEqual(same("A+", "A", most), [-1])
            self.assertEqual(same("A", "A+", most), [-1])
            self.assertEqual(same("", "", most), [-1])
            self.assertEqual(same("a", "b", most), [-1])

    def test_programs_come_before_the_length_of_the_run(self):
        self.assertEqual(same("a", "b", 0), [-4])
        self.assertEqual(same("a", "b+", 0), [-2])
        self.assertEqual(same("!a", "b", 0), [-2])
        self.assertEqual(same("a" + ";a" * 12, "b", 0), [-2])


class HowItIsCalled(SameCase):
    TEXTS = ["(A;a)*;!A", "(A;a)*;!A;(A;b)*;!A", "a+b", "b", "!a", "", "!!A*"]

    def test_what_is_handed_in_is_not_changed(self):
        for p in self.TEXTS:
            for q in self.TEXTS:
                for most in [-1, 0, 5]:
                    p_list, q_list = Unchanging(p.encode()), Unchanging(q.encode())
                    samerunsdesk.programs.same(most, p_list, q_list)
                    self.assertEqual((list(p_list), list(q_list)), (list(p.encode()), list(q.encode())))

    def test_one_list_for_both(self):
        text = Unchanging(b"(A;a+!A;b)*")
        self.assertEqual(samerunsdesk.programs.same(0, text, text), [0])

    def test_nothing_is_kept(self):
        pairs = [(p, q) for p in self.TEXTS for q in self.TEXTS]
        once = [same(p, q) for p, q in pairs]
        again = [same(p, q) for p, q in reversed(pairs)]
        self.assertEqual(once, again[::-1])

    def test_what_is_given_back_belongs_to_the_caller(self):
        same("a", "b").append(9)
        same("a", "a").append(9)
        self.assertEqual(same("a", "b"), [3, 0, 0, 0])
        self.assertEqual(same("a", "a"), [0])

    def test_kinds_of_what_is_given_back(self):
        for answer in [same("a", "a"), same("a", "F;h"), same("a", "b", 0), same("", "a"), same("a", "b", -1)]:
            self.assertIs(type(answer), list)
            for number in answer:
                self.assertIs(type(number), int)

    def test_names_of_arguments(self):
        self.assertEqual(samerunsdesk.programs.same(most=3, p=[97], q=[98]), [3, 0, 0, 0])

    def test_long_and_deep_texts_need_few_calls_within_one_another(self):
        answers = with_few_calls(lambda: [
            same("!A" + ";A" * 127, "(" * 32 + "0" + ")" * 32),
            same("a" + "*" * 255, "!" * 32 + "1+a*"),
            same("!" * 256, "(" * 256),
        ])
        self.assertEqual(answers, [[0], [0], [-2]])


class ManyStates(SameCase):
    """The states of such programs are thousands, and pairs of them would be millions."""

    def test_same_runs(self):
        p = "a*;A;a" + "".join(";" + guard + ";a" for guard in GUARDS)
        q = "a*;A;a" + "".join(";" + guard + ";(0+a)" for guard in GUARDS)
        self.check_same(p, q)
        self.check_same("(" + p + ")*", "(" + q + ")*")

    def test_a_difference_at_the_end(self):
        p = "a*;A;a" + ";a" * 10
        self.check_differ(p, p + ";!(A;B;C)", [1] + [0] * 21 + [7])


class AgainstTheWordsOfTheDocument(SameCase):
    MOST_ACTIONS = 3

    def check_pair(self, p, q):
        answer = same(p, q)
        wanted = oracle.first_difference(p, q, range(4), self.MOST_ACTIONS)
        if wanted is not None:
            self.assertEqual(answer, [len(wanted)] + wanted, (p, q))
        else:
            self.assertTrue(answer == [0] or answer[0] > 2 * self.MOST_ACTIONS + 1, (p, q, answer))
        return answer[0]

    def test_random_programs(self):
        source = random.Random(20)
        seen = {}
        for turn in range(400):
            p = random_program(source, 3)
            q = random_program(source, 3)
            seen[self.check_pair(p, q)] = True
        self.assertTrue(all(length in seen for length in [0, 1, 3, 5]), seen)

    def test_random_programs_changed_a_little(self):
        source = random.Random(21)
        seen = {}
        for turn in range(400):
            p = random_program(source, 4)
            q = changed_a_little(source, p)
            seen[self.check_pair(p, q)] = True
        self.assertTrue(all(length in seen for length in [0, 1, 3, 5, 7]), seen)

    def test_each_short_text_is_a_program_or_not(self):
        signs = "1Aa()!*;+"
        texts = [""]
        for length in range(5):
            for text in texts:
                self.assertEqual(same(text, text), [0] if oracle.is_program(text) else [-2], text)
            texts = [text + sign for text in texts for sign in signs]


if __name__ == "__main__":
    unittest.main()
