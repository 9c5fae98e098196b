"""Point 3: table."""

import unittest
from itertools import product
from time import process_time

from tests.helper import NEVER, STOP, Draws, expected_table, left, right, to_and_fro
from toandfrodesk.machines import table


class GoingRight(unittest.TestCase):
    def test_letters_that_turn_the_state_over(self):
        rules = [right(0), right(1), right(0), right(0),
                 right(1), right(0), right(1), right(1)]
        self.assertEqual(table(2, 2, 0, rules, []), [0, 0, 0, 1])
        self.assertEqual(table(2, 2, 1, rules, [0]), [0, 0, 0, 1])
        self.assertEqual(table(2, 2, 1, rules, [1]), [0, 1, 1, 0])
        self.assertEqual(table(2, 2, 2, rules, [1, 1]), [0, 0, 1, 0])
        self.assertEqual(table(2, 2, 3, rules, [0, 1, 0]), [0, 1, 0, 1])
        self.assertEqual(table(2, 2, 60, rules, [1] * 60), [0, 0, 1, 0])

    def test_the_word_of_no_letter_is_the_left_end_alone(self):
        rules = [STOP, right(2), STOP,
                 STOP, STOP, STOP,
                 STOP, right(1), STOP]
        self.assertEqual(table(3, 1, 0, rules, []), [0, 2, 2, NEVER, 1])

    def test_the_first_number_begins_at_the_left_end_in_state_0(self):
        # From the left end it comes to the letter in state 1; begun at the letter, it is there in any state.
        rules = [right(2), right(1), STOP,
                 right(0), STOP, STOP,
                 right(1), right(2), STOP]
        self.assertEqual(table(3, 1, 1, rules, [0]), [0, 0, 2, 0, 1])

    def test_one_state(self):
        self.assertEqual(table(1, 1, 0, [1, 1, 1], []), [0, 0, 0])
        self.assertEqual(table(1, 1, 60, [1, 1, 1], [0] * 60), [0, 0, 0])


class GoingLeft(unittest.TestCase):
    def test_a_step_back_at_one_letter(self):
        # Letter 1 sends state 0 one place back, to come again in state 1.
        rules = [right(0), left(1), right(0), right(0),
                 right(1), right(1), right(1), right(1)]
        self.assertEqual(table(2, 2, 0, rules, []), [0, 0, 0, 1])
        self.assertEqual(table(2, 2, 1, rules, [0]), [0, 0, 0, 1])
        self.assertEqual(table(2, 2, 1, rules, [1]), [0, 1, 1, 1])
        self.assertEqual(table(2, 2, 2, rules, [0, 1]), [0, 1, 1, 1])
        self.assertEqual(table(2, 2, 2, rules, [1, 0]), [0, 1, 0, 1])

    def test_to_the_left_end_and_back(self):
        for length in (0, 1, 2, 59, 60):
            self.assertEqual(table(5, 4, length, to_and_fro(5, 4), [at % 4 for at in range(length)]),
                             [0, 0, 0, 2, 2, 4, 4])

    def test_back_from_the_last_place_more_than_once(self):
        # At the letter: 0 back to 1, 1 back to 2, 2 back to 3, 3 back to 4; only state 4 goes right, into state 3.
        rules = [left(1), right(0), STOP,
                 left(2), right(1), STOP,
                 left(3), right(2), STOP,
                 left(4), right(3), STOP,
                 right(3), right(4), STOP]
        self.assertEqual(table(5, 1, 0, rules, []), [0, 0, 0, 1, 2, 3, 4])
        self.assertEqual(table(5, 1, 1, rules, [0]), [0, 3, 3, 3, 3, 3, 3])

    def test_going_right_to_the_last_place_is_not_going_right_from_it(self):
        # From the last letter it goes back to the first one, whose going right counts for nothing.
        rules = [right(0), left(1), right(0), STOP,
                 right(2), STOP, STOP, STOP,
                 STOP, right(1), STOP, STOP]
        self.assertEqual(table(3, 2, 2, rules, [0, 1]), [0, 1, 1, NEVER, 1])


class Never(unittest.TestCase):
    def test_it_stops_at_the_left_end(self):
        for length in (0, 1, 2, 60):
            self.assertEqual(table(2, 1, length, to_and_fro(2, 1), [0] * length), [0, 0, 0, NEVER])
        self.assertEqual(table(1, 1, 0, [1, STOP, 1], []), [0, NEVER, NEVER])
        # Begun at the letter, it doesn't come to the left end.
        self.assertEqual(table(1, 1, 1, [1, STOP, 1], [0]), [0, NEVER, 0])

    def test_it_stops_at_the_last_letter(self):
        rules = [right(0), STOP, right(0), right(0)]
        self.assertEqual(table(1, 2, 2, rules, [0, 1]), [0, NEVER, NEVER])

    def test_it_stops_ahead_of_the_last_letter(self):
        rules = [right(0), STOP, right(0), right(0)]
        self.assertEqual(table(1, 2, 2, rules, [1, 0]), [0, NEVER, 0])
        self.assertEqual(table(1, 2, 3, rules, [1, 0, 0]), [0, NEVER, 0])

    def test_it_goes_on_for_ever(self):
        for length in (1, 2, 60):
            self.assertEqual(table(1, 1, length, [0, 1, 1], [0] * length), [0, NEVER, NEVER])

    def test_it_goes_on_for_ever_in_several_states(self):
        # At the letter, states 0 and 1 send it back to one another; state 2 goes on.
        rules = [left(1), right(1), STOP,
                 left(0), right(0), STOP,
                 right(2), right(2), STOP]
        self.assertEqual(table(3, 1, 1, rules, [0]), [0, NEVER, NEVER, NEVER, 2])

    def test_it_goes_on_for_ever_ahead_of_the_last_letter(self):
        # At letter 1 it goes on for ever; begun behind that, at letter 0, it goes right.
        rules = [right(0), left(0), right(0), right(0)]
        self.assertEqual(table(1, 2, 2, rules, [1, 0]), [0, NEVER, 0])


class NothingBehind(unittest.TestCase):
    def test_the_rules_for_the_right_end_count_for_nothing(self):
        draws = Draws(4)
        for turn in range(50):
            n, k = 1 + draws.below(5), 1 + draws.below(4)
            rules, word = draws.rules(n, k), draws.word(k, draws.below(61))
            answer = table(n, k, len(word), rules, word)
            for other in (STOP, left(n - 1), right(0)):
                changed = [other if at % (k + 2) == k + 1 else rule for at, rule in enumerate(rules)]
                self.assertEqual(table(n, k, len(word), changed, word), answer)


class AgainstTheSecondWay(unittest.TestCase):
    def test_every_machine_of_one_state_and_two_letters(self):
        words = [list(word) for length in range(4) for word in product((0, 1), repeat=length)]
        for rules in product((0, 1, STOP), (0, 1, STOP), (1, STOP), (0, 1, STOP)):
            for word in words:
                self.assertEqual(table(1, 2, len(word), list(rules), word),
                                 expected_table(1, 2, rules, word), (rules, word))

    def test_every_machine_of_two_states_and_one_letter(self):
        anything, at_left = (0, 1, 2, 3, STOP), (1, 3, STOP)
        for rules in product(anything, at_left, (STOP,), anything, at_left, (STOP,)):
            for length in (0, 1, 2, 3, 5):
                self.assertEqual(table(2, 1, length, list(rules), [0] * length),
                                 expected_table(2, 1, rules, [0] * length), rules)

    def test_machines_drawn_by_lot(self):
        draws = Draws(5)
        for n, k in product(range(1, 6), range(1, 5)):
            for turn in range(80):
                rules = draws.rules(n, k)
                word = draws.word(k, draws.below(9) if turn % 2 else draws.below(61))
                self.assertEqual(table(n, k, len(word), rules, word), expected_table(n, k, rules, word),
                                 (n, k, rules, word))


class Time(unittest.TestCase):
    def test_words_of_60_letters(self):
        draws = Draws(6)
        begun = process_time()
        for turn in range(50):
            table(5, 4, 60, draws.rules(5, 4), draws.word(4, 60))
        self.assertLess(process_time() - begun, 5)


if __name__ == "__main__":
    unittest.main()
