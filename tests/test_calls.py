"""What holds for every call: the refusals and their order, and the interface."""

import sys
import unittest
from contextlib import redirect_stderr, redirect_stdout
from io import StringIO

import toandfrodesk.machines
from tests.helper import STOP, Draws, below_zero, left, only_word, right, to_and_fro
from toandfrodesk.machines import count, first, halts, run, same, states, steps, table

NOT_N = (0, 6, 7, 255, 2147483647, below_zero(-1), below_zero(-5), 2147483648)
NOT_K = (0, 5, 6, 255, 2147483647, below_zero(-1), below_zero(-4), 2147483648)
NOT_LENGTH = (4097, 65536, 2147483647, below_zero(-1), below_zero(-60), 2147483648)


class Refusals(unittest.TestCase):
    def refused(self, number, n, k, length, rules, word, good=0):
        """Each call that is given a word."""
        self.assertEqual(run(n, k, good, length, rules, word), [number])
        self.assertEqual(steps(n, k, length, rules, word), [number])
        self.assertEqual(table(n, k, length, rules, word), [number])

    def machine_refused(self, number, n, k, rules, word, good=0):
        """Each call, with a word that is as long as told."""
        self.refused(number, n, k, len(word), rules, word, good)
        self.good_refused(number, n, k, rules, good)
        self.assertEqual(halts(n, k, rules), [number])

    def good_refused(self, number, n, k, rules, good):
        """Each call that is given good states and no word; of two machines either is it."""
        plain = [1] * (k + 2) if k in range(1, 5) else []
        self.assertEqual(states(n, k, good, rules), [number])
        self.assertEqual(first(n, k, good, 0, rules), [number])
        self.assertEqual(same(n, k, good, 1, 0, rules, plain), [number])
        self.assertEqual(same(1, k, 0, n, good, plain, rules), [number])
        self.assertEqual(count(n, k, good, 0, 2, rules), [number])

    def not_refused(self, n, k, rules, word, good=0):
        plain = [1] * (k + 2)
        self.assertGreaterEqual(run(n, k, good, len(word), rules, word)[0], 0)
        self.assertNotIn(steps(n, k, len(word), rules, word)[0], (-2, -3))
        self.assertEqual(table(n, k, len(word), rules, word)[0], 0)
        self.assertGreaterEqual(states(n, k, good, rules)[0], 1)
        self.assertNotIn(first(n, k, good, 0, rules)[0], (-2, -3))
        self.assertIn(same(n, k, good, 1, 0, rules, plain), ([0], [1]))
        self.assertIn(same(1, k, 0, n, good, plain, rules), ([0], [1]))
        self.assertIn(halts(n, k, rules), ([0], [1]))
        self.assertIn(count(n, k, good, 0, 2, rules), ([0], [1]))


class OutOfRange(Refusals):
    def test_n(self):
        for n in NOT_N:
            self.machine_refused(-2, n, 1, [], [0, 0])

    def test_k(self):
        for k in NOT_K:
            self.machine_refused(-2, 1, k, [], [0, 0])

    def test_length(self):
        for length in NOT_LENGTH:
            self.refused(-2, 1, 1, length, [1, 1, 1], [])

    def test_all_of_them(self):
        self.refused(-2, 0, 0, below_zero(-1), [], [])
        self.refused(-2, 6, 5, 4097, [], [])
        self.machine_refused(-2, 0, 0, [], [])
        self.machine_refused(-2, 6, 5, [], [])

    def test_the_edges_are_in_range(self):
        for n in (1, 5):
            for k in (1, 4):
                for length in (0, 60):
                    self.not_refused(n, k, [1] * (n * (k + 2)), [k - 1] * length)

    def test_the_longest_length_is_in_range(self):
        # Longer than any word that is handed in, but in the range that the document gives.
        self.assertEqual(run(1, 1, 1, 4096, [1, 1, 1], [0] * 4096), [1])
        self.assertEqual(steps(1, 1, 4096, [1, 1, 1], [0] * 4096), [4098])
        self.assertEqual(table(1, 1, 4096, [1, 1, 1], [0] * 4096), [0, 0, 0])

    def test_a_number_modulo_two_to_the_32_is_taken_as_it_is_meant(self):
        self.assertEqual(below_zero(-1), 4294967295)
        self.machine_refused(-2, 4294967295, 1, [], [])
        self.machine_refused(-2, 1, 4294967295, [], [])
        self.refused(-2, 1, 1, 4294967295, [1, 1, 1], [])


class NotAsTold(Refusals):
    def test_a_rule_of_a_state_that_is_not_there(self):
        for n in range(1, 6):
            for k in range(1, 5):
                for at in range(n * (k + 2)):
                    for rule in (2 * n, 2 * n + 1, 254):
                        rules = [1] * (n * (k + 2))
                        rules[at] = rule
                        self.machine_refused(-3, n, k, rules, [])

    def test_the_highest_rules_that_are_told(self):
        for n in range(1, 6):
            for k in range(1, 5):
                for at in range(n * (k + 2)):
                    for rule in (2 * n - 1, STOP):
                        rules = [1] * (n * (k + 2))
                        rules[at] = rule
                        self.not_refused(n, k, rules, [])

    def test_a_rule_that_goes_left(self):
        for n in range(1, 6):
            for k in range(1, 5):
                for at in range(n * (k + 2)):
                    for state in range(n):
                        rules = [1] * (n * (k + 2))
                        rules[at] = left(state)
                        if at % (k + 2) == k:
                            self.machine_refused(-3, n, k, rules, [0])
                        else:
                            self.not_refused(n, k, rules, [0])

    def test_a_rule_that_no_run_comes_to(self):
        rules = [STOP, STOP, STOP, STOP, left(0), STOP]
        self.machine_refused(-3, 2, 1, rules, [])

    def test_a_rule_for_the_right_end_that_no_table_comes_to(self):
        self.machine_refused(-3, 1, 1, [1, 1, 2], [])

    def test_a_letter_that_is_not_there(self):
        for k in range(1, 5):
            for letter in (k, k + 1, k + 2, 254, 255):
                for length in (1, 2, 60):
                    for at in (0, length // 2, length - 1):
                        word = [0] * length
                        word[at] = letter
                        self.refused(-3, 2, k, length, [1] * (2 * (k + 2)), word)

    def test_a_letter_that_no_run_comes_to(self):
        self.refused(-3, 1, 1, 2, [1, STOP, 1], [0, 1])

    def test_good(self):
        for n in range(1, 6):
            rules = to_and_fro(n, 1)
            for good in (2 ** n, 2 ** n + 1, 2 ** 31 - 1, 2 ** 31, 2 ** 32 - 2 ** n, 2 ** 32 - 1):
                self.assertEqual(run(n, 1, good, 1, rules, [0]), [-3])
                self.good_refused(-3, n, 1, rules, good)
            for good in (0, 2 ** n - 1):
                self.not_refused(n, 1, rules, [0], good)

    def test_good_is_asked_even_where_the_run_does_not_leave(self):
        for rules in ([1, STOP, 1], [1, 1, 0]):
            self.assertEqual(run(1, 1, 2, 0, rules, []), [-3])
            self.good_refused(-3, 1, 1, rules, 2)


class BothKinds(Refusals):
    def test_out_of_range_comes_first(self):
        for n in NOT_N:
            self.machine_refused(-2, n, 1, [], [7], good=2 ** 32 - 1)
        for k in NOT_K:
            self.machine_refused(-2, 1, k, [], [255], good=2 ** 32 - 1)
        for length in NOT_LENGTH:
            self.refused(-2, 1, 1, length, [1, 0, 2], [], good=2 ** 32 - 1)

    def test_not_as_told_comes_before_going_on_for_ever(self):
        self.assertEqual(steps(1, 1, 1, [0, 1, 2], [0]), [-3])
        self.assertEqual(steps(1, 1, 2, [0, 1, 1], [0, 1]), [-3])


class Interface(unittest.TestCase):
    def calls(self):
        """Each a function, its numbers and its lists; all kinds of answers are among them."""
        draws = Draws(3)
        made = []
        for turn in range(60):
            n, k = 1 + draws.below(5), 1 + draws.below(4)
            rules, word = draws.rules(n, k), draws.word(k, draws.below(61))
            good = draws.below(2 ** n)
            made.append((run, (n, k, good, len(word)), (rules, word)))
            made.append((steps, (n, k, len(word)), (rules, word)))
            made.append((table, (n, k, len(word)), (rules, word)))
            made.append((states, (n, k, good), (rules,)))
            made.append((first, (n, k, good, draws.below(3)), (rules,)))
            o = 1 + draws.below(5)
            made.append((same, (n, k, good, o, draws.below(2 ** o)), (rules, draws.rules(o, k))))
            made.append((same, (n, k, good, n, good), (rules, list(rules))))
            made.append((halts, (n, k), (rules,)))
            made.append((count, (n, k, good, draws.below(61), 2 + draws.below(2147483646)), (rules,)))
        made.append((run, (0, 1, 0, 1), ([], [0])))
        made.append((steps, (1, 1, below_zero(-1)), ([1, 1, 1], [])))
        made.append((table, (1, 5, 1), ([], [0])))
        made.append((states, (6, 1, 0), ([],)))
        made.append((first, (1, 1, 0, 65537), ([1, 1, 1],)))
        made.append((same, (1, 1, 0, 6, 0), ([1, 1, 1], [])))
        made.append((halts, (1, 0), ([],)))
        made.append((count, (1, 1, 0, 1001, 2), ([1, 1, 1],)))
        made.append((count, (1, 1, 0, 0, 1), ([1, 1, 1],)))
        made.append((run, (1, 1, 2, 1), ([1, 1, 1], [0])))
        made.append((steps, (1, 1, 1), ([1, 0, 1], [0])))
        made.append((table, (1, 1, 1), ([1, 1, 1], [1])))
        made.append((states, (1, 1, 2), ([1, 1, 1],)))
        made.append((first, (1, 1, 2, 0), ([1, 1, 1],)))
        made.append((same, (1, 1, 0, 1, 2), ([1, 1, 1], [1, 1, 1])))
        made.append((halts, (1, 1), ([1, 0, 1],)))
        made.append((count, (1, 1, 2, 0, 2), ([1, 1, 1],)))
        made.append((first, (3, 3, 4, 1), (only_word(3, [2, 1]),)))
        made.append((first, (3, 3, 4, 2), (only_word(3, [2, 1]),)))
        made.append((first, (3, 3, 0, 2), (only_word(3, [2, 1]),)))
        made.append((steps, (1, 1, 1), ([1, 1, 0], [0])))
        made.append((halts, (1, 1), ([1, 1, 0],)))
        made.append((halts, (1, 1), ([1, 1, 1],)))
        made.append((count, (1, 4, 1, 1000, 2147483647), ([1] * 6,)))
        made.append((count, (1, 4, 1, 0, 2), ([1] * 6,)))
        return made

    def test_answers_are_lists_of_whole_numbers(self):
        for function, numbers, lists in self.calls():
            answer = function(*numbers, *lists)
            many = 1
            if function is table and answer[0] == 0:
                many = numbers[0] + 2
            if function is first and answer[0] >= 0:
                many = answer[0] + 1
            self.assertIs(type(answer), list)
            self.assertEqual([type(number) for number in answer], [int] * many)

    def test_what_is_handed_in_stays(self):
        for function, numbers, lists in self.calls():
            before = tuple(list(handed) for handed in lists)
            function(*numbers, *lists)
            self.assertEqual(lists, before)

    def test_what_is_handed_in_is_not_changed_for_a_while_either(self):
        for function, numbers, lists in self.calls():
            answer = function(*numbers, *lists)
            self.assertEqual(function(*numbers, *[Unchanging(handed) for handed in lists]), answer)

    def test_nothing_is_kept(self):
        calls = self.calls()
        once = [function(*numbers, *lists) for function, numbers, lists in calls]
        calls.reverse()
        again = [function(*numbers, *lists) for function, numbers, lists in calls]
        again.reverse()
        self.assertEqual(once, again)

    def test_a_second_call_answers_like_the_first(self):
        for function, numbers, lists in self.calls():
            self.assertEqual(function(*numbers, *lists), function(*numbers, *lists))

    def test_an_answer_is_the_callers_own(self):
        for function, numbers, lists in self.calls():
            answer = function(*numbers, *lists)
            kept = list(answer)
            answer.append(99)
            self.assertEqual(function(*numbers, *lists), kept)

    def test_names_and_order_of_arguments(self):
        for name, wanted in (("run", ("n", "k", "good", "length", "rules", "word")),
                             ("steps", ("n", "k", "length", "rules", "word")),
                             ("table", ("n", "k", "length", "rules", "word")),
                             ("states", ("n", "k", "good", "rules")),
                             ("first", ("n", "k", "good", "most", "rules")),
                             ("same", ("n", "k", "good", "o", "fair", "rules", "others")),
                             ("halts", ("n", "k", "rules")),
                             ("count", ("n", "k", "good", "length", "p", "rules"))):
            code = getattr(toandfrodesk.machines, name).__code__
            self.assertEqual(code.co_varnames[:code.co_argcount], wanted)

    def test_arguments_by_name(self):
        rules = [right(1), right(0), right(0), right(0), right(0), right(0)]
        self.assertEqual(run(word=[0], rules=rules, length=1, good=1, k=1, n=2), [1])
        self.assertEqual(steps(word=[0], rules=rules, length=1, k=1, n=2), [3])
        self.assertEqual(table(word=[0], rules=rules, length=1, k=1, n=2), [0, 1, 1, 0])
        self.assertEqual(states(rules=rules, good=1, k=1, n=2), [1])
        self.assertEqual(first(rules=rules, most=0, good=1, k=1, n=2), [0])
        self.assertEqual(same(others=[1, 1, 1], rules=rules, fair=1, o=1, good=1, k=1, n=2), [1])
        self.assertEqual(halts(rules=rules, k=1, n=2), [1])
        self.assertEqual(count(rules=rules, p=2, length=1, good=1, k=1, n=2), [1])

    def test_nothing_is_printed(self):
        printed = StringIO()
        with redirect_stdout(printed), redirect_stderr(printed):
            for function, numbers, lists in self.calls():
                function(*numbers, *lists)
        self.assertEqual(printed.getvalue(), "")

    def test_what_is_long_is_gone_through_by_loops(self):
        rules, word = to_and_fro(5, 4), [3] * 4096
        for function, numbers, lists in ((run, (5, 4, 16, 4096), (rules, word)),
                                         (steps, (5, 4, 4096), (rules, word)),
                                         (table, (5, 4, 4096), (rules, word)),
                                         (states, (5, 4, 16), (rules,)),
                                         (first, (5, 4, 16, 65536), (only_word(4, [3, 3, 3, 3]),)),
                                         (same, (5, 4, 16, 5, 16), (rules, rules)),
                                         (halts, (5, 4), (rules,)),
                                         (count, (5, 4, 16, 1000, 2147483647), (rules,))):
            self.assertLess(deepest(function, *numbers, *lists), 20)


def deepest(function, *given):
    """How many calls within one another the function makes at most, itself among them."""
    depths = [0]

    def seen(frame, event, what):
        if event == "call":
            depths.append(depths[-1] + 1)
        if event == "return":
            depths.append(depths[-1] - 1)

    before = sys.getprofile()
    sys.setprofile(seen)
    try:
        function(*given)
    finally:
        sys.setprofile(before)
    return max(depths)


class Unchanging(list):
    """A list that refuses each change."""

    def refuse(self, *given):
        raise AssertionError("a list that was handed in was changed")

    append = clear = extend = insert = pop = remove = reverse = sort = refuse
    __setitem__ = __delitem__ = __iadd__ = __imul__ = refuse


if __name__ == "__main__":
    unittest.main()
