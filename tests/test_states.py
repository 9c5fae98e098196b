"""Point 4: states."""

import unittest
from itertools import product
from time import process_time

from tests.helper import (FOR_EVER_BY_A_LATER_ONE, LENGTHS_BY_3, MANY_KINDS, ODD, ODD_AND_ONE_AT_THE_END, ONE_BUT_LAST,
                          STOP, TWO_ONES_AT_THE_END, Draws, expected_states, kinds_of_short_words, left, right, takes,
                          to_and_fro)
from toandfrodesk.machines import states


class OneKind(unittest.TestCase):
    def test_no_word_is_taken_since_no_state_is_good(self):
        for n, k in product(range(1, 6), range(1, 5)):
            self.assertEqual(states(n, k, 0, to_and_fro(n, k)), [1])

    def test_no_word_is_taken_since_it_leaves_in_another_state(self):
        self.assertEqual(states(2, 1, 2, [right(0), right(0), right(0), right(1), right(1), right(1)]), [1])

    def test_no_word_is_taken_since_it_stops(self):
        self.assertEqual(states(1, 1, 1, [1, STOP, 1]), [1])
        self.assertEqual(states(1, 2, 1, [1, 1, 1, STOP]), [1])
        self.assertEqual(states(2, 3, 3, to_and_fro(2, 3)), [1])

    def test_no_word_is_taken_since_it_goes_on_for_ever(self):
        self.assertEqual(states(1, 1, 1, [1, 1, 0]), [1])

    def test_every_word_is_taken(self):
        for k in range(1, 5):
            self.assertEqual(states(1, k, 1, [1] * (k + 2)), [1])
            self.assertEqual(states(3, k, 4, to_and_fro(3, k)), [1])
            self.assertEqual(states(5, k, 16, to_and_fro(5, k)), [1])


class SeveralKinds(unittest.TestCase):
    def test_letters_1_odd_or_even(self):
        self.assertEqual(states(2, 2, 2, list(ODD)), [2])
        self.assertEqual(states(2, 2, 1, list(ODD)), [2])
        self.assertEqual(states(2, 2, 3, list(ODD)), [1])

    def test_lengths_modulo_3(self):
        for good in range(1, 7):
            self.assertEqual(states(3, 1, good, list(LENGTHS_BY_3)), [3])
        self.assertEqual(states(3, 1, 7, list(LENGTHS_BY_3)), [1])

    def test_the_word_of_no_letter_alone(self):
        # The other kind: every word that has a letter.
        self.assertEqual(states(1, 1, 1, [STOP, 1, 1]), [2])
        self.assertEqual(states(1, 4, 1, [STOP, STOP, STOP, STOP, 1, 1]), [2])

    def test_the_word_of_no_letter_is_a_word(self):
        # All words but that of no letter are taken.
        self.assertEqual(states(2, 1, 2, [right(1), right(0), right(0), right(1), STOP, right(1)]), [2])

    def test_one_letter_at_most(self):
        # No letter, one, more.
        rules = [right(1), right(0), right(0),
                 STOP, STOP, right(1)]
        self.assertEqual(states(2, 1, 3, rules), [3])
        # Only one letter: the same kinds. Only none: one letter and more are alike.
        self.assertEqual(states(2, 1, 2, rules), [3])
        self.assertEqual(states(2, 1, 1, rules), [2])

    def test_words_that_are_alike_though_their_states_differ(self):
        # Letter 0 brings it into state 1 and letter 1 into state 2. Both are good: all words that have a letter are
        # alike, and that of no letter is the other kind.
        rules = [right(1), right(2), right(0), right(0),
                 right(1), right(2), STOP, right(1),
                 right(1), right(2), STOP, right(2)]
        self.assertEqual(states(3, 2, 6, rules), [2])
        # Only state 1 is good. Kinds: 0 at the end; 1 at the end, or no letter.
        self.assertEqual(states(3, 2, 2, rules), [2])
        # States 0 and 1 are good. Kinds: 0 at the end, or no letter; 1 at the end.
        self.assertEqual(states(3, 2, 3, rules), [2])

    def test_a_letter_that_stops_it(self):
        # Letter 2 stops it: odd, even, and with a letter 2.
        rules = [right(0), right(1), STOP, right(0), right(0),
                 right(1), right(0), STOP, STOP, right(1)]
        self.assertEqual(states(2, 3, 2, rules), [3])

    def test_a_kind_that_the_right_end_alone_sees(self):
        # It leaves at the right end in state 1 out of state 0 and in state 0 out of state 1.
        rules = [right(1), right(0), right(1),
                 right(1), STOP, right(0)]
        self.assertEqual(states(2, 1, 1, rules), [2])
        self.assertEqual(states(2, 1, 3, rules), [1])


class GoingLeft(unittest.TestCase):
    def test_two_letters_1_at_the_end(self):
        # Kinds: 1 and 1 at the end; 1 at the end, not behind a 1; no 1 at the end.
        self.assertEqual(states(3, 2, 4, list(TWO_ONES_AT_THE_END)), [3])

    def test_the_last_letter_but_one(self):
        # Kinds: by the last two letters, where none counts as 0.
        self.assertEqual(states(4, 2, 8, list(ONE_BUT_LAST)), [4])

    def test_odd_and_1_at_the_end(self):
        # Kinds: even; odd with 1 at the end; odd with 0 at the end.
        self.assertEqual(states(3, 2, 4, list(ODD_AND_ONE_AT_THE_END)), [3])

    def test_going_on_for_ever_on_some_words(self):
        # Kinds: no letter; letters 0 behind the first one; with a 1 behind the first one.
        rules = list(FOR_EVER_BY_A_LATER_ONE)
        self.assertEqual(states(2, 2, 2, rules), [3])
        self.assertEqual(states(2, 2, 3, rules), [3])
        # Only the word of no letter is taken.
        self.assertEqual(states(2, 2, 1, rules), [2])

    def test_going_on_for_ever_at_the_right_end(self):
        # State 0 at the right end goes back and comes again; state 1 leaves.
        rules = [right(0), right(1), right(0), left(0),
                 right(1), right(1), STOP, right(1)]
        # Kinds: without a letter 1; with one.
        self.assertEqual(states(2, 2, 2, rules), [2])


class AgainstWholeWords(unittest.TestCase):
    def agrees(self, n, k, good, rules, longest):
        """How many kinds there are; what whole words show must be as many, or no more where they show too little."""
        answer = states(n, k, good, rules)[0]
        seen = kinds_of_short_words(k, good, rules, longest)
        if answer <= longest + 1:
            self.assertEqual(answer, seen, (n, k, good, rules))
        else:
            self.assertGreaterEqual(answer, seen, (n, k, good, rules))
        return answer

    def test_every_machine_of_one_state_and_two_letters(self):
        for rules in product((0, 1, STOP), (0, 1, STOP), (1, STOP), (0, 1, STOP)):
            for good in (0, 1):
                self.agrees(1, 2, good, list(rules), 3)

    def test_machines_of_two_states_and_two_letters(self):
        draws = Draws(7)
        found = {self.agrees(2, 2, 1 + draws.below(3), draws.rules(2, 2), 4) for turn in range(150)}
        self.assertGreaterEqual(found, {1, 2, 3, 4})

    def test_machines_of_three_states(self):
        draws = Draws(8)
        for turn in range(60):
            self.agrees(3, 2, 1 + draws.below(7), draws.rules(3, 2), 4)
            self.agrees(3, 4, 1 + draws.below(7), draws.rules(3, 4), 2)

    def test_one_letter(self):
        # A word of one letter is its length: a kind is what the lengths from there on show.
        draws = Draws(9)
        for turn in range(60):
            n = 1 + draws.below(3)
            rules, good = draws.rules(n, 1), draws.below(2 ** n)
            # There are at most 4 ** 4 tables, so from 256 on all lengths come again, and within 256 more all is seen.
            taken = [takes(1, good, rules, [0] * length) for length in range(768)]
            tails = {tuple(taken[length:length + 256]) for length in range(512)}
            self.assertEqual(states(n, 1, good, rules), [len(tails)], (n, good, rules))


class AgainstTheSecondWay(unittest.TestCase):
    def test_every_machine_of_two_states_and_one_letter(self):
        anything, at_left = (0, 1, 2, 3, STOP), (1, 3, STOP)
        found = set()
        for rules in product(anything, at_left, anything, anything, at_left, anything):
            answer = states(2, 1, 2, list(rules))
            self.assertEqual(answer, expected_states(2, 1, 2, list(rules)), rules)
            found.add(answer[0])
        self.assertEqual(found, {1, 2, 3})

    def test_machines_drawn_by_lot(self):
        draws = Draws(10)
        for n, k in product(range(1, 4), range(1, 5)):
            for turn in range(40):
                rules, good = draws.rules(n, k), draws.below(2 ** n)
                self.assertEqual(states(n, k, good, rules), expected_states(n, k, good, rules), (n, k, good, rules))

    def test_machines_of_four_and_five_states(self):
        draws = Draws(11)
        for n, k in product((4, 5), (1, 2, 4)):
            for turn in range(5):
                rules, good = draws.rules(n, k), 1 + draws.below(2 ** n - 1)
                self.assertEqual(states(n, k, good, rules), expected_states(n, k, good, rules), (n, k, good, rules))

    def test_many_kinds(self):
        for good, rules in MANY_KINDS:
            self.assertEqual(states(3, 4, good, rules), [18])
            self.assertEqual(expected_states(3, 4, good, rules), [18])


class Time(unittest.TestCase):
    def test_machines_of_three_states_and_four_letters(self):
        draws = Draws(12)
        begun = process_time()
        for good, rules in MANY_KINDS:
            states(3, 4, good, rules)
        for turn in range(200):
            states(3, 4, 1 + draws.below(7), draws.rules(3, 4))
        self.assertLess(process_time() - begun, 5)


if __name__ == "__main__":
    unittest.main()
