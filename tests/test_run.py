"""Point 1: run."""

import unittest
from itertools import product

from tests.helper import STOP, Draws, expected_run, left, right, to_and_fro
from toandfrodesk.machines import run


class Leaving(unittest.TestCase):
    # Letter 1 turns the state over; two states, letters 0 and 1.
    ODD = [right(0), right(1), right(0), right(0),
           right(1), right(0), right(1), right(1)]

    def test_good_or_another_state(self):
        for word in ([], [0], [1], [1, 1], [0, 1, 0], [1, 0, 1, 1], [1] * 60, [1] * 59 + [0]):
            odd = sum(word) % 2
            self.assertEqual(run(2, 2, 2, len(word), self.ODD, word), [odd], word)
            self.assertEqual(run(2, 2, 1, len(word), self.ODD, word), [1 - odd], word)

    def test_no_state_and_every_state_good(self):
        for word in ([], [1], [0, 1, 1]):
            self.assertEqual(run(2, 2, 0, len(word), self.ODD, word), [0])
            self.assertEqual(run(2, 2, 3, len(word), self.ODD, word), [1])

    def test_the_state_is_the_one_by_the_last_rule(self):
        rules = [right(0), right(0), right(1),
                 right(1), right(1), right(0)]
        self.assertEqual(run(2, 1, 2, 2, rules, [0, 0]), [1])
        self.assertEqual(run(2, 1, 1, 2, rules, [0, 0]), [0])

    def test_each_state_has_its_own_bit(self):
        for state in range(5):
            rules = [right(0), right(0), right(state)] + [STOP] * 12
            for good in range(32):
                wanted = [1 if good & 2 ** state else 0]
                self.assertEqual(run(5, 1, good, 1, rules, [0]), wanted)

    def test_left_and_back_again(self):
        for n in (1, 3, 5):
            for k in (1, 4):
                for length in (0, 1, 2, 59, 60):
                    word = [at % k for at in range(length)]
                    rules = to_and_fro(n, k)
                    self.assertEqual(run(n, k, 2 ** (n - 1), length, rules, word), [1])
                    self.assertEqual(run(n, k, 2 ** (n - 1) - 1, length, rules, word), [0])
                    self.assertEqual(run(n, k, 2 ** n - 1, length, rules, word), [1])

    def test_what_was_read_on_the_way_back_counts(self):
        # To the right end, a step back: the last letter alone says in which state it leaves.
        rules = [right(0), right(0), right(0), left(1),
                 right(2), right(3), STOP, STOP,
                 STOP, STOP, STOP, right(2),
                 STOP, STOP, STOP, right(3)]
        for word in ([0], [1], [0, 1], [1, 0], [1, 1, 0], [0] * 59 + [1]):
            self.assertEqual(run(4, 2, 8, len(word), rules, word), [word[-1]])
        self.assertEqual(run(4, 2, 15, 0, rules, []), [2])

    def test_every_pair_of_place_and_state_once(self):
        self.assertEqual(run(1, 1, 1, 60, [1, 1, 1], [0] * 60), [1])
        rules = [STOP, right(0), left(1), STOP, right(1), right(0)]
        self.assertEqual(run(2, 1, 1, 0, rules, []), [1])


class Stopping(unittest.TestCase):
    def test_at_the_very_first_step(self):
        self.assertEqual(run(1, 1, 1, 0, [1, STOP, 1], []), [2])
        self.assertEqual(run(1, 1, 1, 3, [1, STOP, 1], [0, 0, 0]), [2])

    def test_at_the_right_end(self):
        for length in (0, 1, 60):
            self.assertEqual(run(1, 1, 1, length, [1, 1, STOP], [0] * length), [2])

    def test_at_the_left_end_later_on(self):
        for length in (0, 1, 60):
            self.assertEqual(run(2, 1, 3, length, to_and_fro(2, 1), [0] * length), [2])

    def test_at_a_letter(self):
        rules = [right(0), STOP, right(0), right(0)]
        self.assertEqual(run(1, 2, 1, 3, rules, [0, 0, 1]), [2])
        self.assertEqual(run(1, 2, 1, 3, rules, [0, 0, 0]), [1])


class GoingOn(unittest.TestCase):
    def test_between_an_end_and_its_neighbour(self):
        self.assertEqual(run(1, 1, 1, 0, [1, 1, 0], []), [3])
        self.assertEqual(run(1, 1, 1, 4, [0, 1, 1], [0] * 4), [3])
        self.assertEqual(run(1, 1, 1, 60, [1, 1, 0], [0] * 60), [3])

    def test_from_end_to_end(self):
        rules = to_and_fro(4, 2)
        rules[3 * 4 + 2] = right(0)
        for length in (0, 1, 60):
            self.assertEqual(run(4, 2, 15, length, rules, [1] * length), [3])

    def test_on_some_words_only(self):
        # A letter 1 that is not the first letter sends it a place back, from where it comes as before.
        rules = [right(1), right(1), right(0), right(0),
                 right(1), left(0), right(1), right(1)]
        self.assertEqual(run(2, 2, 2, 2, rules, [0, 1]), [3])
        self.assertEqual(run(2, 2, 2, 2, rules, [1, 1]), [3])
        self.assertEqual(run(2, 2, 2, 2, rules, [1, 0]), [1])
        self.assertEqual(run(2, 2, 2, 1, rules, [1]), [1])


class AgainstTheSecondWay(unittest.TestCase):
    def test_every_machine_of_one_state_and_two_letters(self):
        words = [list(word) for length in range(4) for word in product((0, 1), repeat=length)]
        for rules in product((0, 1, STOP), (0, 1, STOP), (1, STOP), (0, 1, STOP)):
            for word in words:
                for good in (0, 1):
                    self.assertEqual(run(1, 2, good, len(word), list(rules), word),
                                     expected_run(2, good, rules, word), (rules, word))

    def test_every_machine_of_two_states_and_one_letter(self):
        anything, at_left = (0, 1, 2, 3, STOP), (1, 3, STOP)
        for rules in product(anything, at_left, anything, anything, at_left, anything):
            for length in (0, 1, 3):
                self.assertEqual(run(2, 1, 2, length, list(rules), [0] * length),
                                 expected_run(1, 2, rules, [0] * length), rules)

    def test_machines_drawn_by_lot(self):
        draws = Draws(1)
        seen = set()
        for n, k in product(range(1, 6), range(1, 5)):
            for turn in range(150):
                rules = draws.rules(n, k)
                word = draws.word(k, draws.below(61))
                good = draws.below(2 ** n)
                answer = run(n, k, good, len(word), rules, word)
                self.assertEqual(answer, expected_run(k, good, rules, word), (n, k, good, rules, word))
                seen.add(answer[0])
        self.assertEqual(seen, {0, 1, 2, 3})


if __name__ == "__main__":
    unittest.main()
