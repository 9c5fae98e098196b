"""Point 5: first."""

import unittest
from itertools import product
from time import process_time

from tests.helper import (FOR_EVER_BY_A_LATER_ONE, LENGTHS_BY_3, ODD, ODD_AND_ONE_AT_THE_END, ONE_BUT_LAST, STOP,
                          TWO_ONES_AT_THE_END, Draws, below_zero, expected_first, left, only_word, right, takes,
                          to_and_fro, words_in_order)
from toandfrodesk.machines import first

MOST = 65536

# Of all that were tried, machines of 3 states with the longest first words: letters, good, rules, word.
LONG_WORDS = (
    (4, 1, [2, 1, 4, 1, 5, 5, 3, 5, 3, 3, 1, 1, 5, 0, 4, 4, STOP, 3], [0, 0, 1, 1, 3, 0]),
    (4, 2, [0, 1, 2, 0, 1, 1, 2, 4, 3, 3, 1, STOP, 4, 5, 1, 5, 3, 3], [1, 1, 2, 2, 3, 1]),
    (3, 4, [1, 1, 5, 5, 5, 3, 0, 3, 5, 2, 4, 5, 2, 5, 3], [1, 1, 2, 2, 0, 1]),
    (2, 4, [2, 1, 1, 0, 3, 5, 1, 1, 1, 0, 3, 5], [1, 0, 0, 1]),
)


class NoLetter(unittest.TestCase):
    def test_every_word_is_taken(self):
        for k in range(1, 5):
            for most in (0, 1, MOST):
                self.assertEqual(first(1, k, 1, most, [1] * (k + 2)), [0])
                self.assertEqual(first(3, k, 4, most, to_and_fro(3, k)), [0])

    def test_no_other_word_is_taken(self):
        self.assertEqual(first(1, 2, 1, MOST, [STOP, STOP, 1, 1]), [0])
        self.assertEqual(first(1, 2, 1, 0, [STOP, STOP, 1, 1]), [0])

    def test_letters_1_even(self):
        self.assertEqual(first(2, 2, 1, MOST, list(ODD)), [0])

    def test_it_leaves_after_going_back_to_the_left_end(self):
        rules = [STOP, right(0), left(1),
                 STOP, right(1), right(1)]
        self.assertEqual(first(2, 1, 2, 0, rules), [0])
        self.assertEqual(first(2, 1, 1, 0, rules), [-5])


class OneLetter(unittest.TestCase):
    def test_letters_1_odd(self):
        self.assertEqual(first(2, 2, 2, MOST, list(ODD)), [1, 1])

    def test_each_letter(self):
        for k in range(1, 5):
            for letter in range(k):
                self.assertEqual(first(2, k, 2, MOST, only_word(k, [letter])), [1, letter])

    def test_the_lowest_of_several(self):
        # Letters 1, 2 and 3 bring it into state 1, letter 0 stops it.
        rules = [STOP, right(1), right(1), right(1), right(0), right(0),
                 STOP, STOP, STOP, STOP, STOP, right(1)]
        self.assertEqual(first(2, 4, 2, MOST, rules), [1, 1])

    def test_the_state_it_leaves_in_is_that_of_the_last_rule(self):
        # At the right end, state 0 leaves in state 1 and state 1 in state 0.
        rules = [right(1), right(0), right(1),
                 right(1), STOP, right(0)]
        self.assertEqual(first(2, 1, 1, MOST, rules), [1, 0])
        self.assertEqual(first(2, 1, 2, MOST, rules), [0])


class SeveralLetters(unittest.TestCase):
    def test_one_word_alone(self):
        for word in ([0, 0], [0, 1], [1, 0], [3, 3], [2, 1], [1, 3]):
            self.assertEqual(first(3, 4, 4, MOST, only_word(4, word)), [2] + word)
        for word in ([0, 0, 0, 0], [3, 0, 2, 1], [3, 3, 3, 3], [0, 0, 0, 3]):
            self.assertEqual(first(5, 4, 16, MOST, only_word(4, word)), [4] + word)

    def test_lengths_modulo_3(self):
        self.assertEqual(first(3, 1, 1, MOST, list(LENGTHS_BY_3)), [0])
        self.assertEqual(first(3, 1, 2, MOST, list(LENGTHS_BY_3)), [1, 0])
        self.assertEqual(first(3, 1, 4, MOST, list(LENGTHS_BY_3)), [2, 0, 0])
        self.assertEqual(first(3, 1, 6, MOST, list(LENGTHS_BY_3)), [1, 0])

    def test_a_shorter_word_comes_ahead_of_lower_letters(self):
        # It takes 0, 0 and 3.
        rules = [right(1), STOP, STOP, right(2), right(0), right(0),
                 right(2), STOP, STOP, STOP, STOP, right(1),
                 STOP, STOP, STOP, STOP, STOP, right(2)]
        self.assertEqual(first(3, 4, 4, MOST, rules), [1, 3])

    def test_the_first_letter_that_differs_counts(self):
        # It takes 0, 3 and 1, 0.
        rules = [right(1), right(2), STOP, STOP, right(0), STOP,
                 STOP, STOP, STOP, right(3), STOP, STOP,
                 right(3), STOP, STOP, STOP, STOP, STOP,
                 STOP, STOP, STOP, STOP, STOP, right(3)]
        self.assertEqual(first(4, 4, 8, MOST, rules), [2, 0, 3])
        # The other way about: it takes 2, 0 and 1, 3.
        rules = [STOP, right(1), right(2), STOP, right(0), STOP,
                 STOP, STOP, STOP, right(3), STOP, STOP,
                 right(3), STOP, STOP, STOP, STOP, STOP,
                 STOP, STOP, STOP, STOP, STOP, right(3)]
        self.assertEqual(first(4, 4, 8, MOST, rules), [2, 1, 3])

    def test_a_later_letter_that_differs_counts_where_the_first_is_the_same(self):
        # It takes 0 or 1, then 1 or 2.
        rules = [right(1), right(1), STOP, right(0), STOP,
                 STOP, right(2), right(2), STOP, STOP,
                 STOP, STOP, STOP, STOP, right(2)]
        self.assertEqual(first(3, 3, 4, MOST, rules), [2, 0, 1])

    def test_a_letter_that_changes_nothing_is_left_out(self):
        # Two letters 2, with as many others between as one likes.
        rules = [right(0), right(0), right(1), right(0), right(0),
                 right(1), right(1), right(2), STOP, right(1),
                 right(2), right(2), STOP, STOP, right(2)]
        self.assertEqual(first(3, 3, 4, MOST, rules), [2, 2, 2])


class GoingLeft(unittest.TestCase):
    def test_two_letters_1_at_the_end(self):
        self.assertEqual(first(3, 2, 4, MOST, list(TWO_ONES_AT_THE_END)), [2, 1, 1])

    def test_the_last_letter_but_one(self):
        self.assertEqual(first(4, 2, 8, MOST, list(ONE_BUT_LAST)), [2, 1, 0])

    def test_odd_and_1_at_the_end(self):
        self.assertEqual(first(3, 2, 4, MOST, list(ODD_AND_ONE_AT_THE_END)), [1, 1])

    def test_words_on_which_it_goes_on_for_ever_are_not_taken(self):
        # Taken are all words that have a letter, but for those with a letter 1 behind the first one.
        self.assertEqual(first(2, 2, 2, MOST, list(FOR_EVER_BY_A_LATER_ONE)), [1, 0])
        # State 0 at the right end goes back and comes again; a letter 1 brings it into state 1, which leaves.
        rules = [right(0), right(1), right(0), left(0),
                 right(1), right(1), STOP, right(1)]
        self.assertEqual(first(2, 2, 2, MOST, rules), [1, 1])


class NoneIsTaken(unittest.TestCase):
    def refuses_all(self, n, k, good, rules):
        for most in (0, 1, MOST):
            self.assertEqual(first(n, k, good, most, rules), [-5])

    def test_no_state_is_good(self):
        for n, k in product(range(1, 6), range(1, 5)):
            self.refuses_all(n, k, 0, to_and_fro(n, k))

    def test_it_leaves_in_another_state(self):
        self.refuses_all(3, 2, 3, to_and_fro(3, 2))
        self.refuses_all(2, 1, 2, [right(0), right(0), right(0), right(1), right(1), right(1)])

    def test_it_stops(self):
        self.refuses_all(1, 1, 1, [1, STOP, 1])
        self.refuses_all(1, 4, 1, [1, 1, 1, 1, 1, STOP])
        self.refuses_all(2, 3, 3, to_and_fro(2, 3))

    def test_it_goes_on_for_ever(self):
        self.refuses_all(1, 1, 1, [1, 1, 0])


class Most(unittest.TestCase):
    def test_longer_than_most(self):
        rules = only_word(3, [2, 1])
        self.assertEqual(first(3, 3, 4, 0, rules), [-4])
        self.assertEqual(first(3, 3, 4, 1, rules), [-4])
        self.assertEqual(first(2, 3, 2, 0, only_word(3, [1])), [-4])

    def test_just_as_long_as_most(self):
        self.assertEqual(first(3, 3, 4, 2, only_word(3, [2, 1])), [2, 2, 1])
        self.assertEqual(first(2, 3, 2, 1, only_word(3, [1])), [1, 1])
        self.assertEqual(first(1, 3, 1, 0, only_word(3, [])), [0])

    def test_shorter_than_most(self):
        for most in (3, 4, 60, 255, 256, 4096, 4097, 65535, 65536):
            self.assertEqual(first(3, 3, 4, most, only_word(3, [2, 1])), [2, 2, 1])

    def test_most_that_is_not_in_its_range(self):
        for most in (65537, 65538, 2 ** 31 - 1, 2 ** 31, below_zero(-65536), below_zero(-2), below_zero(-1)):
            self.assertEqual(first(3, 3, 4, most, only_word(3, [2, 1])), [-2])
            self.assertEqual(first(1, 1, 1, most, [1, 1, 1]), [-2])


class Order(unittest.TestCase):
    # Only 2, 1 is taken, if state 2 is good, and no word if none is.
    RULES = only_word(3, [2, 1])

    def test_out_of_range_comes_before_all(self):
        for good in (0, 4, 8):
            self.assertEqual(first(3, 3, good, 65537, list(self.RULES)), [-2])
            self.assertEqual(first(3, 3, good, below_zero(-1), list(self.RULES)), [-2])
            self.assertEqual(first(0, 3, good, 0, []), [-2])
            self.assertEqual(first(3, 5, good, 0, []), [-2])
        self.assertEqual(first(1, 1, 0, 65537, [1, 0, 1]), [-2])

    def test_not_as_told_comes_before_too_long_and_none(self):
        for rule in (6, 254):
            self.assertEqual(first(3, 3, 4, 1, self.RULES[:-1] + [rule]), [-3])
            self.assertEqual(first(3, 3, 0, 1, self.RULES[:-1] + [rule]), [-3])
        for good in (8, 12, 2 ** 32 - 4):
            self.assertEqual(first(3, 3, good, 1, list(self.RULES)), [-3])
        self.assertEqual(first(1, 1, 0, 0, [1, 0, 1]), [-3])
        self.assertEqual(first(1, 1, 2, 0, [1, STOP, 1]), [-3])

    def test_none_is_not_too_long(self):
        self.assertEqual(first(3, 3, 0, 1, list(self.RULES)), [-5])
        self.assertEqual(first(3, 3, 4, 1, list(self.RULES)), [-4])


class AgainstWholeWords(unittest.TestCase):
    def agrees(self, n, k, good, rules):
        answer = first(n, k, good, MOST, rules)
        self.assertEqual(answer, expected_first(n, k, good, rules), (n, k, good, rules))
        if answer[0] > 0:
            self.assertEqual(first(n, k, good, answer[0], rules), answer)
            self.assertEqual(first(n, k, good, answer[0] - 1, rules), [-4])
        return answer[0]

    def test_every_machine_of_one_state_and_two_letters(self):
        for rules in product((0, 1, STOP), (0, 1, STOP), (1, STOP), (0, 1, STOP)):
            for good in (0, 1):
                self.agrees(1, 2, good, list(rules))

    def test_every_machine_of_two_states_and_one_letter(self):
        anything, at_left = (0, 1, 2, 3, STOP), (1, 3, STOP)
        found = {self.agrees(2, 1, 2, list(rules))
                 for rules in product(anything, at_left, anything, anything, at_left, anything)}
        self.assertEqual(found, {-5, 0, 1})

    def test_machines_drawn_by_lot(self):
        draws = Draws(13)
        found = set()
        for n, k in product(range(1, 4), range(1, 5)):
            for turn in range(250):
                rules = draws.rules(n, k)
                found |= {self.agrees(n, k, good, rules) for good in (1, 2 ** (n - 1), 1 + draws.below(2 ** n - 1))}
        self.assertGreaterEqual(found, {-5, 0, 1, 2, 3})

    def test_machines_of_four_and_five_states(self):
        draws = Draws(14)
        for n, k in product((4, 5), (1, 2, 4)):
            for turn in range(5):
                self.agrees(n, k, 1 + draws.below(2 ** n - 1), draws.rules(n, k))

    def test_no_word_ahead_of_it_is_taken(self):
        draws = Draws(15)
        for turn in range(100):
            k = 1 + draws.below(3)
            rules, good = draws.rules(3, k), 1 + draws.below(7)
            answer = first(3, k, good, MOST, rules)
            taken = [word for word in words_in_order(k, 4) if takes(k, good, rules, word)]
            if taken:
                self.assertEqual(answer, [len(taken[0])] + taken[0])
            else:
                self.assertTrue(answer == [-5] or answer[0] > 4)

    def test_long_words(self):
        for k, good, rules, word in LONG_WORDS:
            self.assertEqual(first(3, k, good, MOST, rules), [len(word)] + word)
            self.assertEqual(expected_first(3, k, good, rules), [len(word)] + word)
            self.assertEqual(first(3, k, good, len(word), rules), [len(word)] + word)
            self.assertEqual(first(3, k, good, len(word) - 1, rules), [-4])


class Time(unittest.TestCase):
    def test_machines_of_three_states_and_four_letters(self):
        draws = Draws(16)
        begun = process_time()
        for k, good, rules, word in LONG_WORDS:
            first(3, k, good, MOST, rules)
        for turn in range(200):
            first(3, 4, draws.below(8), MOST, draws.rules(3, 4))
        self.assertLess(process_time() - begun, 5)


if __name__ == "__main__":
    unittest.main()
