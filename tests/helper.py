"""Machines for the tests, and second ways to find what the calls answer: by whole words, run step by step."""

from itertools import product

STOP = 255
NEVER = 255


def right(state):
    return 2 * state + 1


def left(state):
    return 2 * state


# Letter 1 turns the state over.
ODD = (right(0), right(1), right(0), right(0),
       right(1), right(0), right(1), right(1))

# The state is the length modulo 3.
LENGTHS_BY_3 = (right(1), right(0), right(0),
                right(2), STOP, right(1),
                right(0), STOP, right(2))

# To the right end, two letters back, and right again over letters 1 alone.
TWO_ONES_AT_THE_END = (right(0), right(0), right(0), left(1),
                       left(2), left(2), STOP, STOP,
                       STOP, right(2), STOP, right(2))

# To the right end, two letters back, and right again if that's a letter 1.
ONE_BUT_LAST = (right(0), right(0), right(0), left(1),
                left(2), left(2), STOP, STOP,
                STOP, right(3), STOP, STOP,
                right(3), right(3), STOP, right(3))

# States 0 and 1 count the letters 1; if they are odd, state 2 looks back at the last letter, which must be a 1.
ODD_AND_ONE_AT_THE_END = (right(0), right(1), right(0), STOP,
                          right(1), right(0), STOP, left(2),
                          STOP, right(2), STOP, right(2))

# A letter 1 that is not the first letter keeps it for ever.
FOR_EVER_BY_A_LATER_ONE = (right(1), right(1), right(0), right(0),
                           right(1), left(0), right(1), right(1))

# Of all that were tried, machines of 3 states and 4 letters with the most kinds of words: good and rules.
MANY_KINDS = (
    (7, [5, 1, 5, 1, 3, 0, 0, 2, 3, 4, 5, 3, 1, 3, 2, 5, 1, 4]),
    (5, [0, 4, 2, 5, 1, 3, 1, 3, 3, 0, 3, 4, 5, 1, 5, 3, 3, 1]),
    (7, [5, 5, 1, 1, 1, 2, 2, 1, 0, 4, 5, 5, 3, 2, 5, 3, STOP, 2]),
)


def only_word(k, word):
    """It leaves in state len(word) on that word, and in a lower one or not at all on any other."""
    rules = []
    for state in range(len(word) + 1):
        onward = [STOP] * k
        if state < len(word):
            onward[word[state]] = right(state + 1)
        rules += onward + [right(state), right(state)]
    return rules


def for_ever_on_only_word(k, word):
    """It leaves or stops on every word but that one."""
    rules = only_word(k, word)
    # From the right end back to the last letter, or to the left end, which brings it to the right end again.
    rules[-1] = left(max(0, len(word) - 1))
    return rules


def below_zero(number):
    """A number as an int is handed in."""
    return number % 2 ** 32


def to_and_fro(n, k):
    """Even states go right and odd ones left, each end hands on to the next state; the last state leaves or stops.

    With n odd it leaves at the right end in state n - 1; with n even it stops at the left end.
    """
    rules = []
    for state in range(n):
        onward = state % 2 == 0
        last = state == n - 1
        rules += [right(state) if onward else left(state)] * k
        if onward:
            rules.append(right(state))
            rules.append(right(state) if last else left(state + 1))
        else:
            rules.append(STOP if last else right(state + 1))
            rules.append(left(state))
    return rules


def follow(k, rules, word):
    """How a run ends: ("leaves", state, steps), ("stops", state, steps) or ("goes on",).

    It keeps every pair of place and state that it has been in, and goes by the signs' own places.
    """
    been = set()
    place, state = -1, 0
    while (place, state) not in been:
        been.add((place, state))
        sign = k if place < 0 else k + 1 if place >= len(word) else word[place]
        rule = rules[state * (k + 2):(state + 1) * (k + 2)][sign]
        if rule == STOP:
            return ("stops", state, len(been))
        state, rightward = divmod(rule, 2)
        if rightward and place == len(word):
            return ("leaves", state, len(been))
        place += 1 if rightward else -1
    return ("goes on",)


def expected_run(k, good, rules, word):
    end = follow(k, rules, word)
    if end[0] == "leaves":
        return [good // 2 ** end[1] % 2]
    return [2] if end[0] == "stops" else [3]


def expected_steps(k, rules, word):
    end = follow(k, rules, word)
    return [-5] if end[0] == "goes on" else [end[2]]


def beyond(k, rules, word, place, state):
    """The state in which it first goes right from the last place, begun at a place (the left end is 0).

    Else "stops" or "goes on".
    """
    row = [k] + word
    been = set()
    while (place, state) not in been:
        been.add((place, state))
        rule = rules[state * (k + 2):(state + 1) * (k + 2)][row[place]]
        if rule == STOP:
            return "stops"
        state, rightward = divmod(rule, 2)
        if rightward and place == len(word):
            return state
        place += 1 if rightward else -1
    return "goes on"


def all_beyond(n, k, rules, word):
    """Step by step along the whole row, for each beginning that a table has anew."""
    return tuple([beyond(k, rules, word, 0, 0)] + [beyond(k, rules, word, len(word), state) for state in range(n)])


def expected_table(n, k, rules, word):
    return [0] + [NEVER if state in ("stops", "goes on") else state for state in all_beyond(n, k, rules, word)]


def takes(k, good, rules, word):
    return expected_run(k, good, rules, word) == [1]


def words_by(k, mark):
    """A word for each mark that words have, if words of one mark have one mark with a letter behind them too."""
    words = {}
    waiting = [[]]
    while waiting:
        word = waiting.pop()
        its_own = mark(word)
        if its_own not in words:
            words[its_own] = word
            waiting += [word + [letter] for letter in range(k)]
    return words


def words_of_all_tables(k, machines):
    """A word for each table that words have, or for each pair of them if there are two machines (n, rules)."""
    return words_by(k, lambda word: tuple(tuple(expected_table(n, k, rules, word)) for n, rules in machines))


def words_and_longer_tables(n, k, rules):
    """A word for each table that words have, and each table's tables with each letter put behind."""
    words = words_by(k, lambda word: tuple(expected_table(n, k, rules, word)))
    return words, {table: [tuple(expected_table(n, k, rules, word + [letter])) for letter in range(k)]
                   for table, word in words.items()}


def expected_states(n, k, good, rules):
    """A word for each table, each letter put behind them, and pairs of tables told apart until no more can be."""
    words, onward = words_and_longer_tables(n, k, rules)
    taken = {table: takes(k, good, rules, word) for table, word in words.items()}
    apart = {(one, two) for one in words for two in words if taken[one] != taken[two]}
    more = True
    while more:
        more = {(one, two) for one in words for two in words if (one, two) not in apart
                and any(pair in apart for pair in zip(onward[one], onward[two]))}
        apart |= more
    kinds = []
    for table in words:
        if all((table, other) in apart for other in kinds):
            kinds.append(table)
    return [len(kinds)]


def words_in_order(k, longest):
    """All words up to a length: the shorter first, of one length by the first letter that differs."""
    return [list(word) for length in range(longest + 1) for word in product(range(k), repeat=length)]


def expected_first(n, k, good, rules):
    """What first answers where most is no less: word by word, in their order."""
    if not any(takes(k, good, rules, word) for word in words_of_all_tables(k, [(n, rules)]).values()):
        return [-5]
    length = 0
    while True:
        for word in product(range(k), repeat=length):
            if takes(k, good, rules, list(word)):
                return [length] + list(word)
        length += 1


def expected_same(n, k, good, o, fair, rules, others):
    """One word for each pair of tables that a word has in both machines: is it taken in both or in neither?"""
    words = words_of_all_tables(k, [(n, rules), (o, others)]).values()
    return [int(all(takes(k, good, rules, word) == takes(k, fair, others, word) for word in words))]


def expected_halts(n, k, rules):
    """One word for all that are gone through alike, whatever stands behind: does it go on for ever?"""
    words = words_by(k, lambda word: all_beyond(n, k, rules, word)).values()
    return [int(all(follow(k, rules, word)[0] != "goes on" for word in words))]


def expected_count(n, k, good, length, p, rules):
    """How many words of a length have each table, letter by letter; modulo p only at last."""
    words, onward = words_and_longer_tables(n, k, rules)
    many = {tuple(expected_table(n, k, rules, [])): 1}
    for letters in range(length):
        longer = {}
        for table in many:
            for other in onward[table]:
                longer[other] = longer.get(other, 0) + many[table]
        many = longer
    return [sum(many[table] for table in many if takes(k, good, rules, words[table])) % p]


def kinds_of_short_words(k, good, rules, longest):
    """How many kinds the words up to a length fall in, when words up to that length are put behind them.

    It asks of whole words alone whether they are taken. No more than all kinds; all of them, if those are at most
    longest + 1: a shortest word of a kind goes through a new one at each letter, and a shortest word that tells two
    kinds apart parts one kind more at each letter.
    """
    words = words_in_order(k, longest)
    taken = {}
    rows = set()
    for word in words:
        row = []
        for behind in words:
            whole = tuple(word + behind)
            if whole not in taken:
                taken[whole] = takes(k, good, rules, list(whole))
            row.append(taken[whole])
        rows.add(tuple(row))
    return len(rows)


class Draws:
    """Numbers that look drawn by lot and are the same each time."""

    def __init__(self, seed):
        self.seed = seed

    def below(self, most):
        self.seed = (self.seed * 6364136223846793005 + 1442695040888963407) % 2 ** 64
        return (self.seed >> 33) % most

    def rule(self, n, k, sign):
        if self.below(8) == 0:
            return STOP
        if sign == k:
            return right(self.below(n))
        return self.below(2 * n)

    def rules(self, n, k):
        return [self.rule(n, k, at % (k + 2)) for at in range(n * (k + 2))]

    def word(self, k, length):
        return [self.below(k) for at in range(length)]
