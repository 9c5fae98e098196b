"""Point 8: count."""

import unittest
from itertools import product
from time import process_time

from tests.helper import (FOR_EVER_BY_A_LATER_ONE, LENGTHS_BY_3, MANY_KINDS, ODD, ODD_AND_ONE_AT_THE_END, ONE_BUT_LAST,
                          STOP, TWO_ONES_AT_THE_END, Draws, below_zero, expected_count, for_ever_on_only_word, left,
                          only_word, right, takes, to_and_fro)
from toandfrodesk.machines import count

MOST = 2147483647

# Letter 1 doesn't stand twice side by side.
NO_TWO_ONES = (right(0), right(1), right(0), right(0),
               right(0), STOP, STOP, right(1))

# State 1 is a letter 1 somewhere.
A_LETTER_1 = (right(0), right(1), right(0), right(0),
              right(1), right(1), STOP, right(1))


def by_lengths(n, k, good, rules, lengths, p=MOST):
    return [count(n, k, good, length, p, list(rules))[0] for length in lengths]


class NoLetter(unittest.TestCase):
    def test_the_word_of_no_letter_is_taken(self):
        for k, p in product(range(1, 5), (2, 3, MOST)):
            self.assertEqual(count(1, k, 1, 0, p, [1] * (k + 2)), [1])
            self.assertEqual(count(1, k, 1, 0, p, [STOP] * k + [1, 1]), [1])
            self.assertEqual(count(3, k, 4, 0, p, to_and_fro(3, k)), [1])
            self.assertEqual(count(2, 2, 1, 0, p, list(ODD)), [1])

    def test_the_word_of_no_letter_is_not_taken(self):
        for k, p in product(range(1, 5), (2, 3, MOST)):
            self.assertEqual(count(1, k, 0, 0, p, [1] * (k + 2)), [0])
            self.assertEqual(count(1, k, 1, 0, p, [1] * k + [STOP, 1]), [0])
            self.assertEqual(count(1, k, 1, 0, p, [1] * k + [1, STOP]), [0])
            self.assertEqual(count(1, k, 1, 0, p, [1] * k + [1, 0]), [0])
            self.assertEqual(count(3, k, 3, 0, p, to_and_fro(3, k)), [0])
            self.assertEqual(count(2, 2, 2, 0, p, list(ODD)), [0])


class OneLetter(unittest.TestCase):
    def test_letters_1_odd_or_even(self):
        self.assertEqual(count(2, 2, 2, 1, MOST, list(ODD)), [1])
        self.assertEqual(count(2, 2, 1, 1, MOST, list(ODD)), [1])
        self.assertEqual(count(2, 2, 3, 1, MOST, list(ODD)), [2])

    def test_as_many_letters_as_do_not_stop_it(self):
        for taken in product((1, STOP), repeat=4):
            self.assertEqual(count(1, 4, 1, 1, MOST, list(taken) + [1, 1]), [taken.count(1)])

    def test_the_state_it_leaves_in_is_that_of_the_last_rule(self):
        # At the right end, state 0 leaves in state 1 and state 1 in state 0.
        rules = [right(1), right(0), right(1),
                 right(1), STOP, right(0)]
        self.assertEqual(by_lengths(2, 1, 1, rules, (0, 1, 2)), [0, 1, 1])
        self.assertEqual(by_lengths(2, 1, 2, rules, (0, 1, 2)), [1, 0, 0])


class SeveralLetters(unittest.TestCase):
    def test_two_letters(self):
        self.assertEqual(count(2, 2, 2, 2, MOST, list(ODD)), [2])
        self.assertEqual(count(2, 2, 3, 2, MOST, list(NO_TWO_ONES)), [3])
        self.assertEqual(count(2, 2, 2, 2, MOST, list(NO_TWO_ONES)), [1])
        self.assertEqual(count(2, 2, 2, 2, MOST, list(A_LETTER_1)), [3])
        self.assertEqual(count(2, 2, 1, 2, MOST, list(A_LETTER_1)), [1])

    def test_letters_1_odd_or_even(self):
        for good in (1, 2):
            self.assertEqual(by_lengths(2, 2, good, ODD, range(1, 9)), [1, 2, 4, 8, 16, 32, 64, 128])

    def test_no_two_letters_1_side_by_side(self):
        self.assertEqual(by_lengths(2, 2, 3, NO_TWO_ONES, range(11)), [1, 2, 3, 5, 8, 13, 21, 34, 55, 89, 144])
        # With a letter 1 at the end.
        self.assertEqual(by_lengths(2, 2, 2, NO_TWO_ONES, range(9)), [0, 1, 1, 2, 3, 5, 8, 13, 21])

    def test_one_word_alone(self):
        for k, word in ((1, [0]), (4, [2]), (2, [1, 1]), (4, [3, 0]), (3, [2, 0, 1, 1])):
            wanted = [int(length == len(word)) for length in range(8)]
            self.assertEqual(by_lengths(len(word) + 1, k, 2 ** len(word), only_word(k, word), range(8)), wanted)

    def test_lengths_modulo_3(self):
        self.assertEqual(by_lengths(3, 1, 1, LENGTHS_BY_3, range(8)), [1, 0, 0, 1, 0, 0, 1, 0])
        self.assertEqual(by_lengths(3, 1, 4, LENGTHS_BY_3, range(8)), [0, 0, 1, 0, 0, 1, 0, 0])
        self.assertEqual(by_lengths(3, 1, 3, LENGTHS_BY_3, (998, 999, 1000)), [0, 1, 1])

    def test_all_words_of_one_length_and_none_of_another(self):
        # The state is the length modulo 2.
        rules = [right(1)] * 3 + [right(0), right(0)] + [right(0)] * 3 + [STOP, right(1)]
        self.assertEqual(by_lengths(2, 3, 1, rules, range(6)), [1, 0, 9, 0, 81, 0])
        self.assertEqual(by_lengths(2, 3, 2, rules, range(6)), [0, 3, 0, 27, 0, 243])


class NoneAndAll(unittest.TestCase):
    def test_none(self):
        for length in (0, 1, 2, 3, 60, 1000):
            for n, k in product(range(1, 6), range(1, 5)):
                self.assertEqual(count(n, k, 0, length, MOST, to_and_fro(n, k)), [0])
            self.assertEqual(count(2, 3, 3, length, MOST, to_and_fro(2, 3)), [0])
            self.assertEqual(count(3, 2, 3, length, MOST, to_and_fro(3, 2)), [0])
            self.assertEqual(count(1, 1, 1, length, MOST, [1, 1, 0]), [0])

    def test_all(self):
        for k, length, p in product(range(1, 5), (0, 1, 2, 3, 31, 60, 999, 1000), (2, 3, 10, MOST)):
            self.assertEqual(count(1, k, 1, length, p, [1] * (k + 2)), [pow(k, length, p)])
            self.assertEqual(count(3, k, 4, length, p, to_and_fro(3, k)), [pow(k, length, p)])
            self.assertEqual(count(5, k, 16, length, p, to_and_fro(5, k)), [pow(k, length, p)])


class GoingLeft(unittest.TestCase):
    def test_two_letters_1_at_the_end(self):
        self.assertEqual(by_lengths(3, 2, 4, TWO_ONES_AT_THE_END, range(8)), [0, 0, 1, 2, 4, 8, 16, 32])

    def test_the_last_letter_but_one(self):
        self.assertEqual(by_lengths(4, 2, 8, ONE_BUT_LAST, range(8)), [0, 0, 2, 4, 8, 16, 32, 64])

    def test_odd_and_1_at_the_end(self):
        self.assertEqual(by_lengths(3, 2, 4, ODD_AND_ONE_AT_THE_END, range(8)), [0, 1, 1, 2, 4, 8, 16, 32])

    def test_words_on_which_it_goes_on_for_ever_are_not_taken(self):
        # Taken are all words that have a letter, but for those with a letter 1 behind the first one.
        self.assertEqual(by_lengths(2, 2, 2, FOR_EVER_BY_A_LATER_ONE, range(6)), [0, 2, 2, 2, 2, 2])
        # It leaves on all words of letters 2 ahead of another one or of none; on 2, 1 alone it goes on for ever.
        self.assertEqual(by_lengths(3, 3, 7, for_ever_on_only_word(3, [2, 1]), range(4)), [1, 1, 0, 0])

    def test_a_letter_that_sends_it_back(self):
        # A letter 2 turns it into state 1, which goes left over letters 0, and stops at any other or at the left end.
        # Taken are words without a letter 2.
        rules = [right(0), right(0), left(1), right(0), right(0),
                 left(1), STOP, STOP, STOP, right(1)]
        self.assertEqual(by_lengths(2, 3, 1, rules, range(7)), [1, 2, 4, 8, 16, 32, 64])


class Modulo(unittest.TestCase):
    def test_below_p_just_as_large_and_larger(self):
        # 8 words of 3 letters.
        for p, wanted in ((9, 8), (10, 8), (MOST, 8), (8, 0), (7, 1), (6, 2), (5, 3), (4, 0), (3, 2), (2, 0)):
            self.assertEqual(count(1, 2, 1, 3, p, [1] * 4), [wanted])
        # 5 words of 3 letters.
        for p, wanted in ((6, 5), (5, 0), (4, 1), (3, 2), (2, 1)):
            self.assertEqual(count(2, 2, 3, 3, p, list(NO_TWO_ONES)), [wanted])
        # 3 words of one letter.
        for p, wanted in ((4, 3), (3, 0), (2, 1)):
            self.assertEqual(count(1, 3, 1, 1, p, [1] * 5), [wanted])

    def test_twice_p_and_more(self):
        for p in range(2, 300):
            self.assertEqual(count(1, 4, 1, 4, p, [1] * 6), [256 % p])

    def test_the_least_p(self):
        self.assertEqual(by_lengths(2, 2, 2, ODD, range(6), 2), [0, 1, 0, 0, 0, 0])
        self.assertEqual(by_lengths(2, 2, 2, A_LETTER_1, range(6), 2), [0, 1, 1, 1, 1, 1])
        self.assertEqual(by_lengths(1, 3, 1, [1] * 5, (0, 1, 2, 999, 1000), 2), [1, 1, 1, 1, 1])

    def test_the_most_p(self):
        self.assertEqual(by_lengths(1, 2, 1, [1] * 4, (30, 31, 32, 61, 62)), [1073741824, 1, 2, 1073741824, 1])
        # One word less: just as many as p, or as one more or one less.
        self.assertEqual(by_lengths(2, 2, 2, A_LETTER_1, (30, 31, 32)), [1073741823, 0, 1])
        self.assertEqual(count(2, 2, 2, 31, MOST - 1, list(A_LETTER_1)), [1])
        self.assertEqual(count(2, 2, 2, 30, 1073741823, list(A_LETTER_1)), [0])
        self.assertEqual(count(2, 2, 2, 30, 1073741824, list(A_LETTER_1)), [1073741823])

    def test_more_words_than_32_or_64_bits_tell(self):
        self.assertEqual(count(1, 2, 1, 32, 1000000007, [1] * 4), [2 ** 32 % 1000000007])
        self.assertEqual(count(1, 4, 1, 32, 1000000007, [1] * 6), [2 ** 64 % 1000000007])
        self.assertEqual(count(2, 2, 2, 64, 1000000007, list(A_LETTER_1)), [(2 ** 64 - 1) % 1000000007])

    def test_p_that_others_divide(self):
        for p in (4, 6, 9, 1000, 65536, 1073741824, MOST - 1):
            self.assertEqual(count(2, 2, 2, 1000, p, list(A_LETTER_1)), [(2 ** 1000 - 1) % p])
            self.assertEqual(count(2, 2, 2, 1000, p, list(ODD)), [2 ** 999 % p])

    def test_a_thousand_letters(self):
        numbers = [1, 2]
        while len(numbers) <= 1000:
            numbers.append(numbers[-1] + numbers[-2])
        for p in (2, 3, 1000, MOST):
            wanted = [numbers[length] % p for length in (59, 60, 61, 255, 256, 999, 1000)]
            self.assertEqual(by_lengths(2, 2, 3, NO_TWO_ONES, (59, 60, 61, 255, 256, 999, 1000), p), wanted)
            self.assertEqual(count(3, 2, 4, 1000, p, list(TWO_ONES_AT_THE_END)), [2 ** 998 % p])


class RefusedNumbers(unittest.TestCase):
    PLAIN = [1, 1, 1, 1]

    def test_the_edges(self):
        for n, k, length, p in product((1, 5), (1, 4), (0, 1000), (2, MOST)):
            self.assertEqual(count(n, k, 1, length, p, [1] * (n * (k + 2))), [pow(k, length, p)])

    def test_length_that_is_not_in_its_range(self):
        for length in (1001, 1002, 4096, 4097, 65536, 2 ** 31 - 1, 2 ** 31, below_zero(-1000), below_zero(-1)):
            for p in (2, MOST):
                self.assertEqual(count(1, 2, 1, length, p, list(self.PLAIN)), [-2])

    def test_p_that_is_not_in_its_range(self):
        for p in (0, 1, 2 ** 31, 2 ** 31 + 2, below_zero(-MOST), below_zero(-3), below_zero(-2), below_zero(-1)):
            for length in (0, 1, 1000):
                self.assertEqual(count(1, 2, 1, length, p, list(self.PLAIN)), [-2])

    def test_n_and_k_that_are_not_in_their_range(self):
        for n, k in product((1, 5), (1, 4)):
            for wrong in (0, 6, 2 ** 31 - 1, 2 ** 31, below_zero(-n), below_zero(-1)):
                self.assertEqual(count(wrong, k, 0, 1, 2, []), [-2])
            for wrong in (0, 5, 2 ** 31 - 1, 2 ** 31, below_zero(-k), below_zero(-1)):
                self.assertEqual(count(n, wrong, 0, 1, 2, []), [-2])

    def test_a_rule_that_is_not_as_told(self):
        for n, k in product(range(1, 6), range(1, 5)):
            for at in range(n * (k + 2)):
                for rule in [2 * n, 2 * n + 1, 254] + ([left(n - 1)] if at % (k + 2) == k else []):
                    for length in (0, 1000):
                        rules = [1] * (n * (k + 2))
                        rules[at] = rule
                        self.assertEqual(count(n, k, 0, length, 2, rules), [-3])

    def test_good_that_is_not_as_told(self):
        for n in range(1, 6):
            for good in (2 ** n, 2 ** n + 1, 2 ** 31 - 1, 2 ** 31, 2 ** 32 - 2 ** n, 2 ** 32 - 1):
                self.assertEqual(count(n, 1, good, 0, 2, [1] * (3 * n)), [-3])
            self.assertEqual(count(n, 1, 2 ** n - 1, 0, 2, [1] * (3 * n)), [1])
            self.assertEqual(count(n, 1, 0, 0, 2, [1] * (3 * n)), [0])

    def test_out_of_range_comes_before_not_as_told(self):
        for good, rules in ((2, self.PLAIN), (1, [1, 2, 1, 1]), (1, [1, 1, 0, 1]), (2 ** 32 - 1, [254, 1, 0, 1])):
            self.assertEqual(count(1, 2, good, 1, 2, list(rules)), [-3])
            for length in (1001, below_zero(-1)):
                self.assertEqual(count(1, 2, good, length, 2, list(rules)), [-2])
            for p in (0, 1, below_zero(-1), 2 ** 31):
                self.assertEqual(count(1, 2, good, 1, p, list(rules)), [-2])
            self.assertEqual(count(1, 2, good, 1001, 1, list(rules)), [-2])
            self.assertEqual(count(0, 2, good, 1, 2, []), [-2])
            self.assertEqual(count(1, 5, good, 1, 2, []), [-2])
        self.assertEqual(count(0, 0, 2 ** 32 - 1, below_zero(-1), 0, []), [-2])


class AgainstWholeWords(unittest.TestCase):
    def counted(self, n, k, good, rules, longest):
        """Word by word."""
        found = []
        for length in range(longest + 1):
            many = sum(takes(k, good, rules, list(word)) for word in product(range(k), repeat=length))
            for p in (2, 3, 7, MOST):
                self.assertEqual(count(n, k, good, length, p, rules), [many % p], (n, k, good, length, p, rules))
            found.append(many)
        return found

    def test_every_machine_of_one_state_and_two_letters(self):
        for rules in product((0, 1, STOP), (0, 1, STOP), (1, STOP), (0, 1, STOP)):
            for good in (0, 1):
                self.counted(1, 2, good, list(rules), 5)

    def test_every_machine_of_two_states_and_one_letter(self):
        anything, at_left = (0, 1, 2, 3, STOP), (1, 3, STOP)
        for rules in product(anything, at_left, anything, anything, at_left, anything):
            taken = [int(takes(1, 2, rules, [0] * length)) for length in range(4)]
            self.assertEqual(by_lengths(2, 1, 2, rules, range(4)), taken, rules)

    def test_machines_drawn_by_lot(self):
        draws = Draws(28)
        found = set()
        for n, k in product(range(1, 4), range(1, 5)):
            for turn in range(100):
                longest = (8, 5, 4, 3)[k - 1]
                found.update(self.counted(n, k, 1 + draws.below(2 ** n - 1), draws.rules(n, k), longest))
        self.assertGreaterEqual(found, set(range(20)))

    def test_one_letter(self):
        draws = Draws(29)
        found = []
        for turn in range(60):
            n = 1 + draws.below(3)
            rules, good, length = draws.rules(n, 1), 1 + draws.below(2 ** n - 1), draws.below(1001)
            for letters in (length, 1000):
                found.append(int(takes(1, good, rules, [0] * letters)))
                self.assertEqual(count(n, 1, good, letters, 2, rules), found[-1:], (n, good, letters, rules))
        self.assertGreater(found.count(0), 10)
        self.assertGreater(found.count(1), 10)


class AgainstTheSecondWay(unittest.TestCase):
    def agrees(self, n, k, good, length, p, rules):
        self.assertEqual(count(n, k, good, length, p, rules), expected_count(n, k, good, length, p, rules),
                         (n, k, good, length, p, rules))

    def test_machines_drawn_by_lot(self):
        draws = Draws(30)
        for n, k in product(range(1, 4), range(1, 5)):
            for turn in range(30):
                self.agrees(n, k, 1 + draws.below(2 ** n - 1), draws.below(61), 2 + draws.below(MOST - 1),
                            draws.rules(n, k))
            for turn in range(5):
                self.agrees(n, k, 1 + draws.below(2 ** n - 1), 900 + draws.below(101), 2 + draws.below(MOST - 1),
                            draws.rules(n, k))

    def test_machines_of_four_and_five_states(self):
        draws = Draws(31)
        for n, k in product((4, 5), (1, 2, 4)):
            for turn in range(5):
                self.agrees(n, k, 1 + draws.below(2 ** n - 1), draws.below(61), 2 + draws.below(MOST - 1),
                            draws.rules(n, k))

    def test_many_kinds(self):
        for good, rules in MANY_KINDS:
            for length, p in ((0, 2), (5, 1000), (60, MOST), (1000, MOST)):
                self.agrees(3, 4, good, length, p, rules)


class Time(unittest.TestCase):
    def test_machines_of_three_states_and_four_letters(self):
        draws = Draws(32)
        begun = process_time()
        for good, rules in MANY_KINDS:
            count(3, 4, good, 1000, MOST, rules)
        for turn in range(100):
            count(3, 4, 1 + draws.below(7), 1000, MOST, draws.rules(3, 4))
        self.assertLess(process_time() - begun, 10)


if __name__ == "__main__":
    unittest.main()
