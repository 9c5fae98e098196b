"""Point 7: halts."""

import unittest
from itertools import product
from time import process_time

from tests.helper import (FOR_EVER_BY_A_LATER_ONE, LENGTHS_BY_3, MANY_KINDS, ODD, ODD_AND_ONE_AT_THE_END, ONE_BUT_LAST,
                          STOP, TWO_ONES_AT_THE_END, Draws, below_zero, expected_halts, follow, for_ever_on_only_word,
                          left, only_word, right, to_and_fro, words_in_order)
from toandfrodesk.machines import halts, table

# Of all that were tried, machines that need the longest words to go on for ever, and two that go on for ever only
# where many ways to go through shorter words end: states, letters, rules, the first word on which they go on for ever.
LATE_WORDS = (
    (2, 2, [STOP, 3, 1, 1, 1, 2, STOP, STOP], [1, 0, 1, 1]),
    (3, 1, [3, 5, 0, 2, 5, 3, 1, 1, 3], [0, 0, 0]),
    (3, 2, [3, STOP, 5, 1, 2, 5, STOP, STOP, 1, STOP, 5, 5], [0, 0, 1, 0, 0, 0]),
    (3, 3, [STOP, 3, STOP, 3, STOP, STOP, STOP, 5, 1, 3, 1, 4, 4, 1, 5], [2, 0, 1, 2, 1]),
    (3, 4, [4, 1, 3, 4, 1, STOP, STOP, 5, 1, 4, 1, 3, 0, STOP, STOP, 5, STOP, STOP], [2, 1, 3, 3, 0]),
    (3, 3, [1, 1, 3, 5, STOP, 5, 4, 2, STOP, STOP, 2, 2, 1, 1, STOP], [2, 1, 2, 2]),
    (3, 4, [2, 2, 2, 5, 1, 5, 5, 1, 0, 2, STOP, STOP, 1, 5, 5, 3, STOP, 3], [3, 2, 3, 3]),
)

# Of all that were tried, the machine of 3 states and 4 letters with the most ways to be gone through.
MANY_WAYS = [4, 4, 4, 4, 3, STOP, 0, 5, 1, 3, STOP, 5, 3, 2, 0, 2, 1, 3]


def goes_on(k, rules, word):
    return follow(k, rules, word) == ("goes on",)


class LeavesOrStops(unittest.TestCase):
    def test_it_leaves_on_every_word(self):
        for k in range(1, 5):
            self.assertEqual(halts(1, k, [1] * (k + 2)), [1])
            self.assertEqual(halts(3, k, to_and_fro(3, k)), [1])
            self.assertEqual(halts(5, k, to_and_fro(5, k)), [1])
        self.assertEqual(halts(2, 2, list(ODD)), [1])
        self.assertEqual(halts(3, 1, list(LENGTHS_BY_3)), [1])

    def test_it_stops_on_every_word(self):
        for k in range(1, 5):
            at_the_left_end = [1] * k + [STOP, 1]
            at_the_right_end = [1] * k + [1, STOP]
            self.assertEqual(halts(1, k, at_the_left_end), [1])
            self.assertEqual(halts(1, k, at_the_right_end), [1])
            self.assertEqual(halts(2, k, to_and_fro(2, k)), [1])
            self.assertEqual(halts(4, k, to_and_fro(4, k)), [1])
            for n in range(1, 6):
                self.assertEqual(halts(n, k, [STOP] * (n * (k + 2))), [1])

    def test_it_leaves_on_some_and_stops_on_the_others(self):
        self.assertEqual(halts(1, 2, [1, STOP, 1, 1]), [1])
        self.assertEqual(halts(1, 1, [STOP, 1, 1]), [1])
        self.assertEqual(halts(2, 2, [right(0), right(1), right(0), right(0),
                                      right(1), right(0), STOP, STOP]), [1])
        for word in ([], [3], [2, 1], [0, 0, 0, 0]):
            self.assertEqual(halts(len(word) + 1, 4, only_word(4, word)), [1])

    def test_it_goes_left_and_leaves_or_stops(self):
        self.assertEqual(halts(3, 2, list(TWO_ONES_AT_THE_END)), [1])
        self.assertEqual(halts(4, 2, list(ONE_BUT_LAST)), [1])
        self.assertEqual(halts(3, 2, list(ODD_AND_ONE_AT_THE_END)), [1])

    def test_a_letter_sends_it_back_to_the_left_end_where_it_stops(self):
        rules = [right(0), left(1), right(0), right(0),
                 left(1), left(1), STOP, right(1)]
        self.assertEqual(halts(2, 2, rules), [1])


class GoesOnForEver(unittest.TestCase):
    def test_on_every_word(self):
        for k in range(1, 5):
            # From the right end to the place ahead of it and back.
            self.assertEqual(halts(1, k, [1] * (k + 1) + [0]), [0])
            # From end to end.
            self.assertEqual(halts(2, k, [right(0)] * (k + 1) + [left(1)] + [left(1)] * k + [right(0), STOP]), [0])

    def test_on_the_word_of_no_letter_alone(self):
        for k in range(1, 5):
            # Every letter stops it.
            self.assertEqual(halts(1, k, [STOP] * k + [1, 0]), [0])
            self.assertEqual(halts(1, k, [STOP] * k + [1, 1]), [1])
            # Every letter brings it into state 1, which leaves.
            onward = [right(1)] * k + [STOP, right(1)]
            self.assertEqual(halts(2, k, [right(1)] * k + [right(0), left(0)] + onward), [0])
            self.assertEqual(halts(2, k, [right(1)] * k + [right(0), right(0)] + onward), [1])
            self.assertEqual(halts(2, k, [right(1)] * k + [right(0), STOP] + onward), [1])

    def test_on_one_longer_word_alone(self):
        for k, word in ((1, [0]), (4, [0]), (4, [3]), (1, [0, 0]), (2, [0, 1]), (3, [1, 1]), (4, [2, 1]),
                        (1, [0, 0, 0, 0]), (2, [1, 1, 0, 1]), (4, [3, 0, 2, 1])):
            rules = for_ever_on_only_word(k, word)
            self.assertEqual(halts(len(word) + 1, k, rules), [0])
            for other in words_in_order(k, 5):
                self.assertEqual(goes_on(k, rules, other), other == word)

    def test_on_words_with_one_letter_in_them(self):
        for k in range(1, 5):
            for letter in range(k):
                rules = [1] * (k + 2)
                rules[letter] = left(0)
                self.assertEqual(halts(1, k, rules), [0])
                rules[letter] = STOP
                self.assertEqual(halts(1, k, rules), [1])

    def test_on_words_with_a_letter_1_behind_the_first_one(self):
        self.assertEqual(halts(2, 2, list(FOR_EVER_BY_A_LATER_ONE)), [0])

    def test_between_two_letters(self):
        # On words with a letter 1 right behind a letter 0.
        rules = [right(1), right(0), right(0), right(0),
                 right(1), left(0), right(1), right(1)]
        self.assertEqual(halts(2, 2, rules), [0])
        # Behind a letter 0 a letter 1 stops it.
        rules[5] = STOP
        self.assertEqual(halts(2, 2, rules), [1])

    def test_at_the_right_end_if_a_letter_was_there(self):
        # Letter 1 brings it into state 1, which goes back from the right end and comes again.
        rules = [right(0), right(1), right(0), right(0),
                 right(1), right(1), STOP, left(1)]
        self.assertEqual(halts(2, 2, rules), [0])

    def test_at_the_left_end_alone(self):
        # From the right end back in state 1, then for ever between the left end and the first letter.
        rules = [right(0), right(0), left(1),
                 left(1), right(1), right(1)]
        self.assertEqual(halts(2, 1, rules), [0])


class StopsAndGoesOn(unittest.TestCase):
    def test_machines_of_the_same_tables(self):
        # From the right end back in state 1 to the left end, where the one stops; the other goes for ever between the
        # left end and the first letter. No table shows that, but for that of the word of no letter.
        for k in range(1, 5):
            stops = [right(0)] * (k + 1) + [left(1)] + [left(1)] * k + [STOP, right(1)]
            goes = [right(0)] * (k + 1) + [left(1)] + [left(1)] * k + [right(1), right(1)]
            for word in words_in_order(k, 3)[1:]:
                self.assertEqual(table(2, k, len(word), stops, word), table(2, k, len(word), goes, word))
            self.assertEqual(halts(2, k, stops), [1])
            self.assertEqual(halts(2, k, goes), [0])

    def test_it_stops_on_some_and_goes_on_on_others(self):
        # No word leaves: from the right end back in state 1, over letters 0 to the left end, where it stops. A letter 1
        # turns it right, and a letter 0 or the right end left again.
        rules = [right(0), right(0), right(0), left(1),
                 left(1), right(1), STOP, left(1)]
        self.assertEqual(halts(2, 2, rules), [0])
        # Now a letter 1 stops it.
        rules[5] = STOP
        self.assertEqual(halts(2, 2, rules), [1])

    def test_a_stop_ahead_of_going_on_for_ever(self):
        self.assertEqual(halts(1, 1, [STOP, STOP, 0]), [1])
        self.assertEqual(halts(1, 1, [0, STOP, 0]), [1])
        self.assertEqual(halts(1, 1, [STOP, 1, 1]), [1])
        self.assertEqual(halts(1, 1, [0, 1, STOP]), [0])


class NeverComesThere(unittest.TestCase):
    def test_a_state_that_it_never_comes_into(self):
        for k in range(1, 5):
            plain = [right(0)] * (k + 2)
            self.assertEqual(halts(2, k, plain + [left(1)] * k + [right(1), left(1)]), [1])
            self.assertEqual(halts(3, k, plain + [left(2)] * k + [right(2), left(2)]
                                   + [left(1)] * k + [right(1), left(1)]), [1])

    def test_a_place_that_it_never_comes_to_in_that_state(self):
        # State 1 would go for ever between the left end and a letter 1. But a letter 1 stops state 0, and state 1 comes
        # from the right end alone, so it finds letters 0, which stop it.
        rules = [right(0), STOP, right(0), left(1),
                 STOP, left(1), right(1), right(1)]
        self.assertEqual(halts(2, 2, rules), [1])
        # Now state 0 comes over a letter 1.
        rules[1] = right(0)
        self.assertEqual(halts(2, 2, rules), [0])

    def test_the_right_end_in_another_state(self):
        # State 0 would go on for ever at the right end, but it leaves the left end as state 1 and stays so.
        rules = [right(1), right(1), left(0),
                 right(1), STOP, right(1)]
        self.assertEqual(halts(2, 1, rules), [1])
        # Now a letter makes it state 0.
        rules[3] = right(0)
        rules[0] = right(0)
        self.assertEqual(halts(2, 1, rules), [0])


class RefusedNumbers(unittest.TestCase):
    def test_the_edges(self):
        for n, k in product((1, 5), (1, 4)):
            self.assertEqual(halts(n, k, [1] * (n * (k + 2))), [1])
            self.assertEqual(halts(n, k, ([1] * (k + 1) + [0]) * n), [0])
            for wrong in (0, 6, 2 ** 31 - 1, 2 ** 31, below_zero(-n), below_zero(-1)):
                self.assertEqual(halts(wrong, k, []), [-2])
            for wrong in (0, 5, 2 ** 31 - 1, 2 ** 31, below_zero(-k), below_zero(-1)):
                self.assertEqual(halts(n, wrong, []), [-2])

    def test_a_rule_that_is_not_as_told(self):
        for n, k in product(range(1, 6), range(1, 5)):
            for at in range(n * (k + 2)):
                for rule in [2 * n, 2 * n + 1, 254] + ([left(n - 1)] if at % (k + 2) == k else []):
                    for plain in (1, STOP):
                        rules = [plain] * (n * (k + 2))
                        rules[at] = rule
                        self.assertEqual(halts(n, k, rules), [-3])

    def test_not_as_told_though_it_goes_on_for_ever(self):
        self.assertEqual(halts(2, 1, [1, 1, 0, 1, 0, 1]), [-3])
        self.assertEqual(halts(2, 1, [1, 1, 0, 1, 1, 4]), [-3])

    def test_out_of_range_comes_before_not_as_told(self):
        for wrong in (0, 6, below_zero(-1)):
            self.assertEqual(halts(wrong, 1, [254, 0, 254]), [-2])
            self.assertEqual(halts(1, wrong, [254, 0, 254]), [-2])


class AgainstWholeWords(unittest.TestCase):
    def agrees(self, n, k, rules):
        answer = halts(n, k, rules)
        self.assertEqual(answer, expected_halts(n, k, rules), (n, k, rules))
        return answer[0]

    def test_every_machine_of_one_state_and_two_letters(self):
        # From the left end and from the last place it goes beyond, stops or goes on: 9 ways, so words of at most 8
        # letters show all.
        words = words_in_order(2, 8)
        for rules in product((0, 1, STOP), (0, 1, STOP), (1, STOP), (0, 1, STOP)):
            wanted = not any(goes_on(2, rules, word) for word in words)
            self.assertEqual(halts(1, 2, list(rules)), [int(wanted)], rules)

    def test_every_machine_of_two_states_and_one_letter(self):
        anything, at_left = (0, 1, 2, 3, STOP), (1, 3, STOP)
        found = []
        for rules in product(anything, at_left, anything, anything, at_left, anything):
            found.append(self.agrees(2, 1, list(rules)))
            short = any(goes_on(1, rules, [0] * length) for length in range(6))
            self.assertEqual(found[-1], int(not short), rules)
        self.assertGreater(found.count(0), 500)
        self.assertGreater(found.count(1), 500)

    def test_machines_of_one_letter(self):
        # There are at most 5 ** 4 ways to go through a word, so lengths below 625 show all.
        draws = Draws(23)
        found = []
        for turn in range(60):
            rules = draws.rules(3, 1)
            wanted = not any(goes_on(1, rules, [0] * length) for length in range(625))
            found.append(wanted)
            self.assertEqual(halts(3, 1, rules), [int(wanted)], rules)
        self.assertGreater(found.count(True), 10)
        self.assertGreater(found.count(False), 10)

    def test_machines_drawn_by_lot(self):
        draws = Draws(24)
        for n, k in product(range(1, 4), range(1, 5)):
            found = [self.agrees(n, k, draws.rules(n, k)) for turn in range(150)]
            self.assertGreater(found.count(0), 10)
            self.assertGreater(found.count(1), 10)

    def test_machines_of_four_and_five_states(self):
        draws = Draws(25)
        for n, k in product((4, 5), (1, 2, 4)):
            for turn in range(5):
                self.agrees(n, k, draws.rules(n, k))

    def test_short_words(self):
        draws = Draws(26)
        for turn in range(200):
            k = 1 + draws.below(3)
            rules = draws.rules(3, k)
            if any(goes_on(k, rules, word) for word in words_in_order(k, 4)):
                self.assertEqual(halts(3, k, rules), [0])

    def test_late_words(self):
        for n, k, rules, word in LATE_WORDS:
            self.assertEqual(halts(n, k, rules), [0])
            words = words_in_order(k, len(word))
            self.assertEqual([other for other in words if goes_on(k, rules, other)][0], word)


class Time(unittest.TestCase):
    def test_machines_of_three_states_and_four_letters(self):
        draws = Draws(27)
        begun = process_time()
        self.assertEqual(halts(3, 4, MANY_WAYS), expected_halts(3, 4, MANY_WAYS))
        for good, rules in MANY_KINDS:
            halts(3, 4, rules)
        for turn in range(200):
            halts(3, 4, draws.rules(3, 4))
        self.assertLess(process_time() - begun, 5)


if __name__ == "__main__":
    unittest.main()
