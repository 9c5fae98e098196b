"""Point 6: same."""

import unittest
from itertools import product
from time import process_time

from tests.helper import (FOR_EVER_BY_A_LATER_ONE, LENGTHS_BY_3, MANY_KINDS, ODD, ODD_AND_ONE_AT_THE_END, ONE_BUT_LAST,
                          STOP, TWO_ONES_AT_THE_END, Draws, below_zero, expected_same, left, only_word, right, takes,
                          to_and_fro, words_in_order)
from toandfrodesk.machines import same

# Of all that were tried, machines of 3 states that no shorter word tells apart than one of 8 letters: letters, the good
# states of both, and both rules.
APART_BY_8_LETTERS = (
    (2, 4, [1, 5, 3, 1, 0, 3, 1, 1, 3, 3, 3, 5], [1, 5, 3, 1, 0, 3, 1, 1, 3, 0, 3, 5]),
    (2, 3, [1, 3, 5, 0, 5, 0, STOP, 1, 0, 5, 5, 4], [1, 3, 5, 0, 5, 2, STOP, 1, 0, 5, 5, 4]),
    (4, 3, [0, 4, STOP, 3, 5, 5, 5, 3, 1, 5, 5, 5, 1, 1, 4, 4, 5, 3],
     [0, 4, 0, 3, 5, 5, 5, 3, 1, 5, 5, 5, 1, 1, 4, 4, 5, 3]),
    (4, 5, [2, 4, 0, 1, 1, 2, STOP, 5, 1, 5, STOP, 5, 1, 1, 4, 3, 5, 2],
     [2, 4, 0, 1, 1, 2, STOP, 5, 1, 5, STOP, 5, 1, 1, 0, 3, 5, 2]),
)


def renamed(n, k, good, rules, names):
    """The machine with state q called names[q]."""
    rows = [None] * n
    for state in range(n):
        row = rules[state * (k + 2):(state + 1) * (k + 2)]
        rows[names[state]] = [rule if rule == STOP else 2 * names[rule // 2] + rule % 2 for rule in row]
    return sum((good >> state & 1) << names[state] for state in range(n)), sum(rows, [])


class Same(unittest.TestCase):
    def compared(self, answer, k, one, other):
        """Both ways about; a machine is its states, good and rules."""
        n, good, rules = one
        o, fair, others = other
        self.assertEqual(same(n, k, good, o, fair, list(rules), list(others)), [answer], (k, one, other))
        self.assertEqual(same(o, k, fair, n, good, list(others), list(rules)), [answer], (k, one, other))

    def all_alike(self, k, machines):
        for one, other in product(machines, machines):
            self.compared(1, k, one, other)

    def each_apart(self, k, machines):
        for at, one in enumerate(machines):
            for where, other in enumerate(machines):
                self.compared(1 if at == where else 0, k, one, other)


class OneMachine(Same):
    def test_a_machine_and_itself(self):
        for n, k in product(range(1, 6), range(1, 5)):
            for good in range(2 ** n):
                machine = (n, good, to_and_fro(n, k))
                self.compared(1, k, machine, machine)

    def test_the_same_list_handed_in_twice(self):
        rules = list(ODD)
        self.assertEqual(same(2, 2, 1, 2, 1, rules, rules), [1])
        self.assertEqual(same(2, 2, 1, 2, 2, rules, rules), [0])

    def test_a_machine_with_other_good_states(self):
        self.each_apart(2, [(2, good, ODD) for good in range(4)])
        self.each_apart(1, [(3, good, LENGTHS_BY_3) for good in range(8)])

    def test_good_states_that_it_never_leaves_in(self):
        # It leaves in state 4 alone.
        machines = [(5, good, to_and_fro(5, 2)) for good in range(32)]
        self.all_alike(2, machines[1:16:5])
        self.all_alike(2, machines[16:32:5])
        self.compared(0, 2, machines[15], machines[16])


class OtherStates(Same):
    def test_more_states_than_are_needed(self):
        # Two states for letters 1 odd, which letter 0 turns into one another.
        odd_twice = [right(0), right(1), right(0), right(0),
                     right(2), right(0), STOP, right(1),
                     right(1), right(0), STOP, right(2)]
        self.compared(1, 2, (2, 2, ODD), (3, 6, odd_twice))
        self.compared(0, 2, (2, 2, ODD), (3, 2, odd_twice))
        self.compared(0, 2, (2, 2, ODD), (3, 4, odd_twice))
        self.compared(1, 2, (2, 1, ODD), (3, 1, odd_twice))

    def test_states_that_it_never_comes_to(self):
        self.all_alike(2, [(2, 2, ODD),
                           (3, 2, ODD + (STOP,) * 4),
                           (3, 6, ODD + (right(0),) * 4),
                           (5, 30, ODD + (left(1), left(0), right(1), right(1)) * 3)])

    def test_the_states_under_other_names(self):
        # In state 1 it does what it did in state 2, and the other way about.
        good, rules = renamed(3, 1, 4, LENGTHS_BY_3, (0, 2, 1))
        self.assertEqual((good, rules), (2, [right(2), right(0), right(0),
                                             right(0), STOP, right(1),
                                             right(1), STOP, right(2)]))
        self.compared(1, 1, (3, 4, LENGTHS_BY_3), (3, good, rules))
        self.compared(0, 1, (3, 2, LENGTHS_BY_3), (3, good, rules))

    def test_going_left_or_right_alone(self):
        two_at_the_end = [right(0), right(1), right(0), right(0),
                          right(0), right(2), STOP, right(1),
                          right(0), right(2), STOP, right(2)]
        self.compared(1, 2, (3, 4, TWO_ONES_AT_THE_END), (3, 4, two_at_the_end))
        self.compared(0, 2, (3, 4, TWO_ONES_AT_THE_END), (3, 6, two_at_the_end))
        # The state is the last letter, and 2 more if the last but one is a 1.
        one_but_last = [right(0), right(1), right(0), right(0),
                        right(2), right(3), STOP, right(1),
                        right(0), right(1), STOP, right(2),
                        right(2), right(3), STOP, right(3)]
        self.compared(1, 2, (4, 8, ONE_BUT_LAST), (4, 12, one_but_last))
        self.compared(0, 2, (4, 8, ONE_BUT_LAST), (4, 8, one_but_last))
        odd_and_one_at_the_end = [right(0), right(1), right(0), right(0),
                                  right(2), right(0), STOP, right(1),
                                  right(2), right(0), STOP, right(2)]
        self.compared(1, 2, (3, 4, ODD_AND_ONE_AT_THE_END), (3, 2, odd_and_one_at_the_end))
        self.compared(0, 2, (3, 4, ODD_AND_ONE_AT_THE_END), (3, 6, odd_and_one_at_the_end))

    def test_how_a_word_is_not_taken_counts_for_nothing(self):
        # On a letter 1 behind the first one: goes on for ever; stops; leaves in state 2, which isn't good.
        stops = [right(1), right(1), right(0), right(0),
                 right(1), STOP, STOP, right(1)]
        leaves = [right(1), right(1), right(0), right(0),
                  right(1), right(2), STOP, right(1),
                  right(2), right(2), STOP, right(2)]
        self.all_alike(2, [(2, 2, FOR_EVER_BY_A_LATER_ONE), (2, 2, stops), (3, 2, leaves)])
        self.all_alike(2, [(2, 3, FOR_EVER_BY_A_LATER_ONE), (2, 3, stops), (3, 3, leaves)])
        self.compared(0, 2, (2, 3, FOR_EVER_BY_A_LATER_ONE), (3, 7, leaves))


class AllOrNone(Same):
    def test_no_word_and_every_word(self):
        for k in range(1, 5):
            none = [(1, 0, [1] * (k + 2)), (3, 0, to_and_fro(3, k)), (3, 3, to_and_fro(3, k)),
                    (2, 3, to_and_fro(2, k)), (1, 1, [1] * k + [STOP, 1]), (1, 1, [1] * k + [1, STOP]),
                    (1, 1, [1] * k + [1, 0])]
            every = [(1, 1, [1] * (k + 2)), (3, 4, to_and_fro(3, k)), (5, 16, to_and_fro(5, k)),
                     (5, 31, to_and_fro(5, k))]
            self.all_alike(k, none)
            self.all_alike(k, every)
            for one, other in product(none, every):
                self.compared(0, k, one, other)


class OneWordApart(Same):
    def test_the_word_of_no_letter(self):
        every = (1, 1, [1, 1, 1, 1])
        no_letter = (1, 1, [STOP, STOP, 1, 1])
        with_a_letter = (2, 2, [right(1), right(1), right(0), right(0), right(1), right(1), STOP, right(1)])
        none = (1, 0, [1, 1, 1, 1])
        self.each_apart(2, [every, no_letter, with_a_letter, none])

    def test_a_word_of_one_letter(self):
        for k in range(1, 5):
            self.each_apart(k, [(2, 2, only_word(k, [letter])) for letter in range(k)])
            for letter in range(k):
                self.compared(0, k, (2, 2, only_word(k, [letter])), (1, 0, [1] * (k + 2)))
                self.compared(1, k, (2, 0, only_word(k, [letter])), (1, 0, [1] * (k + 2)))

    def test_a_longer_word(self):
        for word in ([0, 0], [0, 1], [1, 0], [3, 3]):
            one = (3, 4, only_word(4, word))
            self.compared(0, 4, one, (1, 0, [1] * 6))
            self.compared(1, 4, one, one)
        words = ([0, 0, 0, 0], [0, 0, 0, 3], [3, 0, 0, 0], [0, 0, 3], [0, 0, 0])
        self.each_apart(4, [(len(word) + 1, 2 ** len(word), only_word(4, word)) for word in words])

    def test_the_highest_letter(self):
        # All words without a letter 3; all words.
        self.compared(0, 4, (1, 1, [1, 1, 1, STOP, 1, 1]), (1, 1, [1] * 6))


class ApartLater(Same):
    def test_lengths_that_come_again(self):
        # Two letters; two, five, eight and so on.
        two = [right(1), right(0), right(0),
               right(2), STOP, right(1),
               STOP, STOP, right(2)]
        self.compared(0, 1, (3, 4, two), (3, 4, LENGTHS_BY_3))
        # No letter; none, three, six and so on.
        self.compared(0, 1, (3, 1, two), (3, 1, LENGTHS_BY_3))

    def test_lengths_up_to_a_limit(self):
        # All words of less than n letters; the first that tells n from all words has n letters.
        machines = [(1, 1, [1, 1, 1])]
        for n in range(1, 6):
            rows = [[right(state + 1), right(0), right(state)] for state in range(n)]
            rows[-1][0] = STOP
            machines.append((n, 2 ** n - 1, sum(rows, [])))
        self.each_apart(1, machines)

    def test_three_letters_1_in_a_row(self):
        # All words without three letters 1 in a row; all words.
        rules = [right(0), right(1), right(0), right(0),
                 right(0), right(2), STOP, right(1),
                 right(0), STOP, STOP, right(2)]
        self.compared(0, 2, (3, 7, rules), (1, 1, [1] * 4))
        # Three letters 1, in a row or not.
        anyhow = [right(0), right(1), right(0), right(0),
                  right(1), right(2), STOP, right(1),
                  right(2), STOP, STOP, right(2)]
        self.compared(0, 2, (3, 7, anyhow), (1, 1, [1] * 4))
        self.compared(0, 2, (3, 7, anyhow), (3, 7, rules))

    def test_eight_letters(self):
        for k, good, rules, others in APART_BY_8_LETTERS:
            for word in words_in_order(k, 7 if k == 2 else 5):
                self.assertEqual(takes(k, good, rules, word), takes(k, good, others, word))
            self.assertEqual(expected_same(3, k, good, 3, good, rules, others), [0])
            self.compared(0, k, (3, good, rules), (3, good, others))

    def test_as_many_kinds_but_others(self):
        # Letters 1 odd; letters 0 odd; length odd.
        zeros = [right(1), right(0), right(0), right(0),
                 right(0), right(1), right(1), right(1)]
        both = [right(1), right(1), right(0), right(0),
                right(0), right(0), right(1), right(1)]
        self.each_apart(2, [(2, 2, ODD), (2, 2, zeros), (2, 2, both), (2, 1, ODD), (2, 1, zeros), (2, 1, both)])


class Refusals(unittest.TestCase):
    PLAIN = [1, 1, 1]

    def test_o_that_is_not_in_its_range(self):
        for o in (0, 6, 7, 255, 2 ** 31 - 1, 2 ** 31, below_zero(-5), below_zero(-1)):
            self.assertEqual(same(1, 1, 1, o, 0, self.PLAIN, []), [-2])
            self.assertEqual(same(1, 1, 1, o, 1, self.PLAIN, []), [-2])

    def test_the_edges_of_o_are_in_its_range(self):
        for o in range(1, 6):
            self.assertEqual(same(1, 1, 1, o, 2 ** o - 1, self.PLAIN, [1] * (3 * o)), [1])
            self.assertEqual(same(1, 1, 0, o, 2 ** o - 1, self.PLAIN, [1] * (3 * o)), [0])

    def test_each_machine_has_its_own_number_of_states(self):
        # A rule into state 2 and good 4 are as told for three states, not for one or two.
        three = [right(2), right(0), right(0)] * 3
        for n in (1, 2):
            few = [1] * (3 * n)
            self.assertEqual(same(3, 1, 7, n, 2 ** n - 1, three, few), [1])
            self.assertEqual(same(n, 1, 2 ** n - 1, 3, 7, few, three), [1])
            self.assertEqual(same(3, 1, 7, n, 2 ** n - 1, three, three[:3 * n]), [-3])
            self.assertEqual(same(n, 1, 2 ** n - 1, 3, 7, three[:3 * n], three), [-3])
            self.assertEqual(same(3, 1, 7, n, 4, three, few), [-3])
            self.assertEqual(same(n, 1, 4, 3, 7, few, three), [-3])

    def test_a_rule_that_is_not_as_told(self):
        for n, k in product((1, 3), (1, 4)):
            plain = [1] * (n * (k + 2))
            for at in range(len(plain)):
                for rule in [2 * n, 2 * n + 1, 254] + ([0] if at % (k + 2) == k else []):
                    wrong = list(plain)
                    wrong[at] = rule
                    self.assertEqual(same(n, k, 0, n, 0, wrong, plain), [-3])
                    self.assertEqual(same(n, k, 0, n, 0, plain, wrong), [-3])
                    self.assertEqual(same(n, k, 0, n, 0, wrong, wrong), [-3])

    def test_good_and_fair_that_are_not_as_told(self):
        for n in range(1, 6):
            plain = [1] * (3 * n)
            for good in (2 ** n, 2 ** n + 1, 2 ** 31 - 1, 2 ** 31, 2 ** 32 - 2 ** n, 2 ** 32 - 1):
                self.assertEqual(same(n, 1, good, n, 0, plain, plain), [-3])
                self.assertEqual(same(n, 1, 0, n, good, plain, plain), [-3])
                self.assertEqual(same(n, 1, good, n, good, plain, plain), [-3])
            for good in (0, 2 ** n - 1):
                self.assertEqual(same(n, 1, good, n, good, plain, plain), [1])

    def test_out_of_range_comes_before_not_as_told(self):
        for wrong in (0, 6, below_zero(-1)):
            self.assertEqual(same(wrong, 1, 2 ** 32 - 1, 1, 2, [], [1, 0, 2]), [-2])
            self.assertEqual(same(1, 1, 2, wrong, 2 ** 32 - 1, [1, 0, 2], []), [-2])
            self.assertEqual(same(1, wrong, 2, 1, 2, [], []), [-2])
            self.assertEqual(same(wrong, wrong, 2 ** 32 - 1, wrong, 2 ** 32 - 1, [], []), [-2])


class AgainstWholeWords(Same):
    def agrees(self, *machines):
        answer = same(*machines)
        self.assertEqual(answer, expected_same(*machines), machines)
        return answer[0]

    def test_every_two_machines_of_one_state_and_two_letters(self):
        # A machine of one state has at most 4 tables, so two that differ do so on a word of at most 6 letters.
        words = words_in_order(2, 6)
        machines = {}
        for rules in product((0, 1, STOP), (0, 1, STOP), (1, STOP), (0, 1, STOP)):
            for good in (0, 1):
                taken = tuple(takes(2, good, rules, word) for word in words)
                machines.setdefault(taken, []).append((1, good, rules))
        for alike in machines.values():
            for other in alike:
                self.compared(1, 2, alike[0], other)
        self.each_apart(2, [alike[0] for alike in machines.values()])

    def test_machines_of_one_letter(self):
        # There are at most 4 ** 4 tables of each machine, so lengths below 512 tell apart what can be told apart.
        draws = Draws(17)
        machines = []
        for turn in range(60):
            n = 1 + draws.below(3)
            rules, good = draws.rules(n, 1), 1 + draws.below(2 ** n - 1)
            machines.append((n, good, rules, [takes(1, good, rules, [0] * length) for length in range(512)]))
        for n, good, rules, taken in machines:
            for o, fair, others, with_others in machines:
                self.assertEqual(same(n, 1, good, o, fair, rules, others), [int(taken == with_others)])

    def test_machines_drawn_by_lot(self):
        draws = Draws(18)
        found = []
        for k in range(1, 5):
            for turn in range(100):
                n, o = 1 + draws.below(3), 1 + draws.below(3)
                found.append(self.agrees(n, k, draws.below(2 ** n), o, draws.below(2 ** o),
                                         draws.rules(n, k), draws.rules(o, k)))
        self.assertGreater(found.count(0), 50)
        self.assertGreater(found.count(1), 50)

    def test_machines_that_differ_in_one_rule(self):
        draws = Draws(19)
        found = []
        for k in range(1, 5):
            for turn in range(100):
                rules, good = draws.rules(3, k), 1 + draws.below(7)
                at = draws.below(3 * (k + 2))
                others = list(rules)
                others[at] = draws.rule(3, k, at % (k + 2))
                found.append(self.agrees(3, k, good, 3, good, rules, others))
        self.assertGreater(found.count(0), 50)
        self.assertGreater(found.count(1), 50)

    def test_the_states_under_other_names(self):
        draws = Draws(20)
        for k in range(1, 5):
            for turn in range(50):
                rules, good = draws.rules(4, k), 1 + draws.below(15)
                fair, others = renamed(4, k, good, rules, ((0, 1, 3, 2), (0, 2, 3, 1), (0, 3, 2, 1))[turn % 3])
                self.compared(1, k, (4, good, rules), (4, fair, others))

    def test_machines_of_four_and_five_states(self):
        draws = Draws(21)
        for n, o in product((4, 5), (1, 5)):
            for turn in range(5):
                self.agrees(n, 2, draws.below(2 ** n), o, draws.below(2 ** o), draws.rules(n, 2), draws.rules(o, 2))


class Time(unittest.TestCase):
    def test_machines_of_three_states_and_four_letters(self):
        draws = Draws(22)
        begun = process_time()
        for good, rules in MANY_KINDS:
            for fair, others in MANY_KINDS:
                self.assertEqual(same(3, 4, good, 3, fair, rules, others), [int(rules == others)])
        for turn in range(200):
            same(3, 4, draws.below(8), 3, draws.below(8), draws.rules(3, 4), draws.rules(3, 4))
        self.assertLess(process_time() - begun, 5)


if __name__ == "__main__":
    unittest.main()
