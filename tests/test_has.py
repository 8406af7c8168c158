"""Promise 4: has, with the refusals and what stands ahead of the promises in the document."""

import itertools
import random
import unittest

import samerunsdesk.programs
from tests import oracle
from tests.helpers import GUARDS, LARGEST_MOST, Unchanging, changed_a_little
from tests.helpers import random_program, random_test, with_few_calls


def has(p, run):
    return samerunsdesk.programs.has(list(p.encode("latin-1")), list(run))


class HasCase(unittest.TestCase):
    def check_has(self, p, run):
        self.assertEqual(has(p, run), [1], (p, run[:40]))

    def check_has_not(self, p, run):
        self.assertEqual(has(p, run), [0], (p, run[:40]))

    def check_no_run(self, run):
        for p in ["1", "0", "a", "(a+b+c+d+e+f+g+h)*"]:
            self.assertEqual(has(p, run), [-3], (p, run[:40]))


class RunsOfOneNumber(HasCase):
    def test_each_number_of_a_test(self):
        for number in range(64):
            for bit, question in enumerate("ABCDEF"):
                self.assertEqual(has(question, [number]), [number >> bit & 1])
                self.assertEqual(has("!" + question, [number]), [1 - (number >> bit & 1)])
            self.check_has("1", [number])
            self.check_has_not("0", [number])

    def test_tests_of_several_questions(self):
        self.check_has("A;B", [3])
        self.check_has_not("A;B", [2])
        self.check_has("A+B", [2])
        self.check_has_not("A+B", [4])
        self.check_has("!(A;B)", [2])
        self.check_has_not("!(A;B)", [3])
        self.check_has("A;!F+!A;F", [32])
        self.check_has_not("A;!F+!A;F", [33])

    def test_actions_have_none(self):
        self.check_has_not("a", [0])
        self.check_has_not("a;b", [0])
        self.check_has_not("A+b", [0])
        self.check_has("A+b", [1])

    def test_loops_have_all(self):
        for text in ["a*", "0*", "A*", "(A;a)*", "(a;b)*", "!A*", "(a;0)*"]:
            for number in [0, 1, 31, 32, 63]:
                self.check_has(text, [number])


class RunsOfMore(HasCase):
    def test_one_action(self):
        for number, action in enumerate("abcdefgh"):
            for done in range(8):
                self.assertEqual(has(action, [0, done, 63]), [1 if done == number else 0])
        self.check_has("a", [63, 0, 0])
        self.check_has_not("a", [0, 0, 0, 0, 0])

    def test_tests_around_an_action(self):
        self.check_has("A;a;B", [1, 0, 2])
        self.check_has("A;a;B", [63, 0, 63])
        self.check_has_not("A;a;B", [2, 0, 2])
        self.check_has_not("A;a;B", [1, 0, 1])
        self.check_has_not("A;a;B", [1])

    def test_tests_between_actions(self):
        self.check_has("a;A;b", [0, 0, 1, 1, 0])
        self.check_has_not("a;A;b", [0, 0, 0, 1, 0])
        self.check_has_not("a;A;b", [1, 0, 0, 1, 1])
        self.check_has_not("a;A;b", [0, 1, 1, 0, 0])
        self.check_has("a;(A;b+B;c);d", [0, 0, 2, 2, 0, 3, 0])
        self.check_has_not("a;(A;b+B;c);d", [0, 0, 1, 2, 0, 3, 0])
        self.check_has_not("a;(A+B;!B);b", [0, 0, 2, 1, 0])

    def test_choices(self):
        self.check_has("a+b", [0, 0, 0])
        self.check_has("a+b", [0, 1, 0])
        self.check_has_not("a+b", [0, 2, 0])
        self.check_has_not("a+b", [0, 0, 0, 1, 0])
        self.check_has("A;a+!A;b", [1, 0, 5])
        self.check_has("A;a+!A;b", [2, 1, 5])
        self.check_has_not("A;a+!A;b", [2, 0, 5])
        self.check_has("1+a;b", [9])
        self.check_has("1+a;b", [9, 0, 9, 1, 9])
        self.check_has_not("1+a;b", [9, 0, 9])

    def test_loops(self):
        self.check_has("(a;a)*", [0] * 5)
        self.check_has_not("(a;a)*", [0] * 7)
        self.check_has("(A;a)*;!A", [1, 0, 1, 0, 3, 0, 2])
        self.check_has_not("(A;a)*;!A", [1, 0, 1, 0, 3])
        self.check_has_not("(A;a)*;!A", [1, 0, 2, 0, 2])
        self.check_has("(A;a+!A;b)*", [1, 0, 0, 1, 2, 1, 3, 0, 0])
        self.check_has_not("(A;a+!A;b)*", [1, 0, 0, 0, 0])
        self.check_has("((a;b*)*;c)*", [0, 0, 0, 1, 0, 1, 0, 0, 0, 2, 0, 2, 0])
        self.check_has_not("((a;b*)*;c)*", [0, 1, 0, 2, 0])

    def test_a_loop_left_and_begun_again(self):
        self.check_has("(a;A)*;a", [0, 0, 1, 0, 0])
        self.check_has_not("(a;A)*;a", [0, 0, 0, 0, 0])
        self.check_has("(a*;A;b)*", [0, 0, 1, 1, 0, 0, 1, 1, 0])
        self.check_has_not("(a*;A;b)*", [0, 0, 1, 1, 0, 1, 0])

    def test_how_signs_bind(self):
        self.check_has("a;b*", [0, 0, 0, 1, 0, 1, 0])
        self.check_has_not("a;b*", [0, 0, 0, 1, 0, 0, 0, 1, 0])
        self.check_has("a+b;c", [0, 0, 0])
        self.check_has_not("a+b;c", [0, 0, 0, 2, 0])
        self.check_has("!A+B", [3])
        self.check_has_not("!A;B", [3])

    def test_what_never_runs(self):
        for text in ["0", "a;0", "0;a", "a;A;!A", "a;(B;!B);a"]:
            for run in [[0], [0, 0, 0], [3, 0, 3, 0, 3]]:
                self.check_has_not(text, run)

    def test_twelve_actions(self):
        row = "abcdefghabcd"
        run = [5]
        for action in row:
            run += ["abcdefgh".index(action), 5]
        self.check_has(";".join(row), run)
        self.check_has("(" + ";".join(row) + ")*", run + run[1:])
        self.check_has_not(";".join(row), run[:-2])
        self.check_has_not("(" + ";".join(row) + ")*", run[:-2])
        self.check_has_not(";".join(row), run + [0, 5])


class NoRun(HasCase):
    def test_numbers_63_and_64(self):
        for index in [0, 2, 4]:
            run = [0] * 5
            run[index] = 63
            self.check_has("a*", run)
            run[index] = 64
            self.check_no_run(run)
            run[index] = 255
            self.check_no_run(run)
        self.check_has("1", [63])
        self.check_no_run([64])
        self.check_no_run([128])
        self.check_no_run([255])

    def test_actions_7_and_8(self):
        for index in [1, 3]:
            run = [0, 7, 0, 7, 0]
            self.check_has("h*", run)
            run[index] = 8
            self.check_no_run(run)
            run[index] = 63
            self.check_no_run(run)
            run[index] = 255
            self.check_no_run(run)

    def test_even_numbers_of_bytes(self):
        self.check_no_run([])
        self.check_no_run([0, 0])
        self.check_no_run([0, 0, 0, 0])
        self.check_no_run([0] * 4094)

    def test_each_byte(self):
        for byte in range(256):
            self.assertEqual(has("1", [byte]), [1] if byte <= 63 else [-3])
            self.assertEqual(has("1", [0, byte, 0]), [0] if byte <= 7 else [-3])
            self.assertEqual(has("a", [0, 0, byte]), [1] if byte <= 63 else [-3])

    def test_the_last_byte_of_a_long_one(self):
        self.check_no_run([0] * 4094 + [64])
        self.check_no_run([0] * 4093 + [8, 0])
        self.check_no_run([64] + [0] * 4094)


class LongRuns(HasCase):
    def test_4095_numbers(self):
        self.check_has("a*", [0] * 4095)
        self.check_has_not("a;a", [0] * 4095)
        self.check_has("(A;a)*;!A", [1, 0] * 2047 + [0])
        self.check_has_not("(A;a)*;!A", [1, 0] * 2047 + [1])
        self.check_has_not("(A;a)*;!A", [1, 0] * 2046 + [0, 0, 0])
        self.check_has_not("(a+b)*;b;c*", [0] * 4095)
        self.check_has("(a+b)*;c*", [0] * 4093 + [2, 0])

    def test_2047_actions_in_loops_of_several(self):
        # 2047 is 186 times 11, and 1.
        self.check_has("(" + ";".join("a" * 11) + ")*;a", [0] * 4095)
        self.check_has_not("(" + ";".join("a" * 11) + ")*", [0] * 4095)
        self.check_has("(a;a)*;a", [0] * 4095)
        self.check_has_not("(a;a)*", [0] * 4095)
        self.check_has("(a;a)*", [0] * 4093)

    def test_many_states(self):
        text = "a*;A;a" + "".join(";" + guard + ";a" for guard in GUARDS)
        numbers = [1, 4, 8, 16, 32, 2, 1, 0, 0, 0, 0, 63]
        tail = numbers[:1]
        for number in numbers[1:]:
            tail += [0, number]
        self.check_has(text, [0] * 4072 + tail)
        self.check_has(text, [63, 0] * 2036 + tail)
        self.check_has_not(text, [63, 0] * 2036 + [0] + tail[1:])
        self.check_has_not(text, [63, 0] * 2036 + tail[:-3] + [48, 0, 63])
        self.check_has_not(text, [63, 0] * 2036 + tail[:2] + [1] + tail[3:])

    def test_long_and_deep_texts_need_few_calls_within_one_another(self):
        answers = with_few_calls(lambda: [
            has("a" + "*" * 255, [0] * 4095),
            has("(" * 32 + "a" + ")" * 32 + "*", [0] * 4095),
            has("!" * 32 + "A" + ";A" * 100, [1]),
            has("(" * 256, [0] * 4094),
        ])
        self.assertEqual(answers, [[1], [1], [1], [-2]])


class NoProgram(HasCase):
    WRONG = ["", " ", "A ", "i", "G", "2", "AB", "a;", "+a", "a++b", "()", "(a", "a)", "*", "!a", "!(A*)", "a\0"]

    def test_wrong_texts(self):
        for text in self.WRONG + ["\xff"]:
            for run in [[0], [0, 0, 0], [63] + [0, 63] * 2047]:
                self.assertEqual(has(text, run), [-2], text)

    def test_too_much(self):
        for text in [";".join("a" * 13), "(" * 33 + "a" + ")" * 33, "!" * 33 + "A"]:
            self.assertEqual(has(text, [0]), [-2], text)
        self.check_has("+".join("a" * 12), [0, 0, 0])
        self.check_has("(" * 32 + "a" + ")" * 32, [0, 0, 0])
        self.check_has("!" * 32 + "A", [1])

    def test_programs_come_before_runs(self):
        for text in self.WRONG + [";".join("a" * 13)]:
            for run in [[], [0, 0], [64], [0, 8, 0], [255] * 4095]:
                self.assertEqual(has(text, run), [-2], (text, run))

    def test_what_is_no_run_comes_before_whether_it_is_there(self):
        self.assertEqual(has("0", [64]), [-3])
        self.assertEqual(has("a;b", [0, 1, 0, 8, 0]), [-3])
        self.assertEqual(has("1", []), [-3])


class HowItIsCalled(HasCase):
    TEXTS = ["(A;a)*;!A", "a+b", "b", "!a", "", "!!A*"]
    RUNS = [[], [0], [1], [64], [1, 0, 0], [0, 1, 0], [0, 8, 0], [0, 0]]

    def test_what_is_handed_in_is_not_changed(self):
        for text in self.TEXTS:
            for run in self.RUNS:
                p_list, run_list = Unchanging(text.encode()), Unchanging(run)
                samerunsdesk.programs.has(p_list, run_list)
                self.assertEqual((list(p_list), list(run_list)), (list(text.encode()), run))

    def test_nothing_is_kept(self):
        pairs = [(text, run) for text in self.TEXTS for run in self.RUNS]
        once = [has(text, run) for text, run in pairs]
        again = [has(text, run) for text, run in reversed(pairs)]
        self.assertEqual(once, again[::-1])

    def test_what_is_given_back_belongs_to_the_caller(self):
        has("1", [0]).append(9)
        has("0", [0]).append(9)
        self.assertEqual([has("1", [0]), has("0", [0])], [[1], [0]])

    def test_kinds_of_what_is_given_back(self):
        for answer in [has("1", [0]), has("0", [0]), has("", [0]), has("1", [])]:
            self.assertIs(type(answer), list)
            self.assertEqual([type(number) for number in answer], [int])

    def test_names_of_arguments(self):
        self.assertEqual(samerunsdesk.programs.has(p=[98], run=[0, 1, 0]), [1])


class AgainstTheWordsOfTheDocument(HasCase):
    def all_runs(self, numbers, actions, most_actions):
        for length in range(most_actions + 1):
            yield from itertools.product(numbers, *[actions, numbers] * length)

    def test_random_programs(self):
        source = random.Random(25)
        seen = [0, 0]
        for turn in range(150):
            p = random_program(source, 4)
            wanted = oracle.runs(oracle.parse(p), range(4), 2)
            for run in self.all_runs(range(4), range(2), 2):
                self.assertEqual(has(p, run), [1 if run in wanted else 0], (p, run))
                seen[1 if run in wanted else 0] += 1
        self.assertTrue(min(seen) > 1000, seen)

    def test_random_programs_and_longer_runs(self):
        source = random.Random(26)
        for turn in range(100):
            p = random_program(source, 4)
            wanted = oracle.runs(oracle.parse(p), range(2), 5)
            for run in self.all_runs(range(2), [0], 5):
                self.assertEqual(has(p, run), [1 if run in wanted else 0], (p, run))


class BesideTheOtherCalls(HasCase):
    """The run that another call tells is there for the one program, and not for the other."""

    def call(self, name, *texts):
        lists = [list(text.encode()) for text in texts]
        return getattr(samerunsdesk.programs, name)(LARGEST_MOST, *lists)

    def pairs(self, seed):
        source = random.Random(seed)
        for turn in range(300):
            p = random_program(source, 4)
            yield p, source.choice([changed_a_little(source, p), random_program(source, 3)])

    def test_same(self):
        told = 0
        for p, q in self.pairs(27):
            answer = self.call("same", p, q)
            if answer != [0]:
                told += 1
                self.assertEqual(sorted([has(p, answer[1:]), has(q, answer[1:])]), [[0], [1]], (p, q))
        self.assertGreater(told, 50)

    def test_under(self):
        told = 0
        for p, q in self.pairs(28):
            answer = self.call("under", p, q)
            if answer != [0]:
                told += 1
                self.check_has(p, answer[1:])
                self.check_has_not(q, answer[1:])
        self.assertGreater(told, 50)

    def test_holds(self):
        source = random.Random(29)
        told = 0
        for p, q in self.pairs(30):
            t, u = random_test(source, 2), random_test(source, 2)
            answer = self.call("holds", t, p, u)
            if answer != [0]:
                told += 1
                self.check_has(p, answer[1:])
                self.check_has(t, answer[1:2])
                self.check_has_not(u, answer[-1:])
        self.assertGreater(told, 50)

    def test_a_long_run_that_is_told(self):
        loops = "(!A;a;!A;a;!A;a)*;A+(!A;a;!A;a;!A;a;!A;a)*;A+(!A;a;!A;a;!A;a;!A;a;!A;a)*;A"
        answer = self.call("under", "(!A;a)*;A", loops)
        self.check_has("(!A;a)*;A", answer[1:])
        self.check_has_not(loops, answer[1:])


if __name__ == "__main__":
    unittest.main()
