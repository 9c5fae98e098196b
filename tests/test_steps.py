"""Point 2: steps."""

import unittest
from itertools import product

from tests.helper import STOP, Draws, expected_steps, left, right, to_and_fro
from toandfrodesk.machines import steps


class Leaving(unittest.TestCase):
    def test_straight_on(self):
        for length in (0, 1, 2, 17, 60):
            self.assertEqual(steps(1, 1, length, [1, 1, 1], [0] * length), [length + 2])

    def test_left_and_back_again(self):
        for n in (1, 3, 5):
            for k in (1, 4):
                for length in (0, 1, 2, 59, 60):
                    word = [at % k for at in range(length)]
                    self.assertEqual(steps(n, k, length, to_and_fro(n, k), word), [n * (length + 1) + 1])

    def test_longest_sweep(self):
        self.assertEqual(steps(5, 4, 60, to_and_fro(5, 4), [3] * 60), [306])

    def test_every_pair_of_place_and_state_once(self):
        rules = [STOP, right(0), left(1), STOP, right(1), right(0)]
        self.assertEqual(steps(2, 1, 0, rules, []), [4])

    def test_a_step_back_at_one_letter(self):
        # Letter 1 sends it one place back, once; then it goes straight on.
        rules = [right(0), left(1), right(0), right(0),
                 right(1), right(1), right(1), right(1)]
        self.assertEqual(steps(2, 2, 3, rules, [0, 0, 0]), [5])
        self.assertEqual(steps(2, 2, 3, rules, [0, 1, 0]), [7])
        self.assertEqual(steps(2, 2, 3, rules, [1, 1, 1]), [7])


class Stopping(unittest.TestCase):
    def test_stopping_is_a_step(self):
        self.assertEqual(steps(1, 1, 0, [1, STOP, 1], []), [1])
        self.assertEqual(steps(1, 1, 60, [1, STOP, 1], [0] * 60), [1])

    def test_at_the_right_end(self):
        for length in (0, 1, 60):
            self.assertEqual(steps(1, 1, length, [1, 1, STOP], [0] * length), [length + 2])

    def test_at_the_left_end_later_on(self):
        for n in (2, 4):
            for length in (0, 1, 60):
                self.assertEqual(steps(n, 1, length, to_and_fro(n, 1), [0] * length), [n * (length + 1) + 1])

    def test_at_a_letter(self):
        rules = [right(0), STOP, right(0), right(0)]
        self.assertEqual(steps(1, 2, 3, rules, [0, 0, 1]), [4])
        self.assertEqual(steps(1, 2, 3, rules, [1, 0, 1]), [2])


class GoingOn(unittest.TestCase):
    def test_for_ever(self):
        self.assertEqual(steps(1, 1, 0, [1, 1, 0], []), [-5])
        self.assertEqual(steps(1, 1, 4, [0, 1, 1], [0] * 4), [-5])
        rules = to_and_fro(4, 2)
        rules[3 * 4 + 2] = right(0)
        for length in (0, 1, 60):
            self.assertEqual(steps(4, 2, length, rules, [1] * length), [-5])


class AgainstTheSecondWay(unittest.TestCase):
    def test_every_machine_of_two_states_and_one_letter(self):
        anything, at_left = (0, 1, 2, 3, STOP), (1, 3, STOP)
        for rules in product(anything, at_left, anything, anything, at_left, anything):
            for length in (0, 1, 3):
                self.assertEqual(steps(2, 1, length, list(rules), [0] * length),
                                 expected_steps(1, rules, [0] * length), rules)

    def test_machines_drawn_by_lot(self):
        draws = Draws(2)
        for n, k in product(range(1, 6), range(1, 5)):
            for turn in range(150):
                rules = draws.rules(n, k)
                word = draws.word(k, draws.below(61))
                self.assertEqual(steps(n, k, len(word), rules, word), expected_steps(k, rules, word),
                                 (n, k, rules, word))


if __name__ == "__main__":
    unittest.main()
