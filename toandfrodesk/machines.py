"""Machines of few states that read a word to and fro between two ends."""

MOST_STATES = 5
MOST_LETTERS = 4
LONGEST_WORD = 4096
LONGEST_FIRST = 65536
LONGEST_COUNTED = 1000
LEAST_MODULUS = 2
MOST_MODULUS = 2147483647

STOP_RULE = 255

# Stands in a table in the place of a state.
NEVER = 255

OUT_OF_RANGE = -2
NOT_AS_TOLD = -3
TOO_LONG = -4
NO_END = -5
NONE_TAKEN = -5

LEAVES = "leaves"
STOPS = "stops"
GOES_ON = "goes on"


class Ending:
    """How a run ends, in which state, and by which step (counted from 1)."""

    def __init__(self, how, state, step):
        self.how = how
        self.state = state
        self.step = step


def run(n, k, good, length, rules, word):
    """1 if it leaves in a good state, 0 if in another, 2 if it stops, 3 if it goes on for ever."""
    if not sizes_fit(n, k) or not length_fits(length):
        return [OUT_OF_RANGE]
    if not rules_fit(n, k, rules) or not good_fits(n, good) or not word_fits(k, word):
        return [NOT_AS_TOLD]
    ending = walk(n, k, rules, word)
    if ending.how == GOES_ON:
        return [3]
    if ending.how == STOPS:
        return [2]
    return [(good >> ending.state) & 1]


def steps(n, k, length, rules, word):
    """In how many steps it leaves or stops; -5 if it goes on for ever."""
    if not sizes_fit(n, k) or not length_fits(length):
        return [OUT_OF_RANGE]
    if not rules_fit(n, k, rules) or not word_fits(k, word):
        return [NOT_AS_TOLD]
    ending = walk(n, k, rules, word)
    if ending.how == GOES_ON:
        return [NO_END]
    return [ending.step]


def table(n, k, length, rules, word):
    """0, then the word's table."""
    if not sizes_fit(n, k) or not length_fits(length):
        return [OUT_OF_RANGE]
    if not rules_fit(n, k, rules) or not word_fits(k, word):
        return [NOT_AS_TOLD]
    known = empty_table(n, k, rules)
    for letter in word:
        known = longer_table(n, k, rules, known, letter)
    return [0] + list(known)


def states(n, k, good, rules):
    """In how many kinds of words that are alike all words fall."""
    if not sizes_fit(n, k):
        return [OUT_OF_RANGE]
    if not rules_fit(n, k, rules) or not good_fits(n, good):
        return [NOT_AS_TOLD]
    return [len(kinds_of_words(n, k, good, rules))]


def first(n, k, good, most, rules):
    """The length of the first word that is taken, then the word; -5 if none is taken, -4 if it's longer than most."""
    if not sizes_fit(n, k) or not in_range(most, 0, LONGEST_FIRST):
        return [OUT_OF_RANGE]
    if not rules_fit(n, k, rules) or not good_fits(n, good):
        return [NOT_AS_TOLD]
    word = first_taken(n, k, good, rules)
    if word is None:
        return [NONE_TAKEN]
    if len(word) > most:
        return [TOO_LONG]
    return [len(word)] + word


def same(n, k, good, o, fair, rules, others):
    """1 if the machine takes the same words as the other one, else 0."""
    if not sizes_fit(n, k) or not sizes_fit(o, k):
        return [OUT_OF_RANGE]
    if not rules_fit(n, k, rules) or not good_fits(n, good):
        return [NOT_AS_TOLD]
    if not rules_fit(o, k, others) or not good_fits(o, fair):
        return [NOT_AS_TOLD]
    return [1 if kinds_of_words(n, k, good, rules) == kinds_of_words(o, k, fair, others) else 0]


def halts(n, k, rules):
    """1 if it leaves or stops on every word, else 0."""
    if not sizes_fit(n, k):
        return [OUT_OF_RANGE]
    if not rules_fit(n, k, rules):
        return [NOT_AS_TOLD]
    return [1 if always_leaves(n + 1, k, rules_without_stops(n, k, rules)) else 0]


def count(n, k, good, length, p, rules):
    """How many words of that length are taken, modulo p."""
    if not sizes_fit(n, k) or not in_range(length, 0, LONGEST_COUNTED):
        return [OUT_OF_RANGE]
    if not in_range(p, LEAST_MODULUS, MOST_MODULUS):
        return [OUT_OF_RANGE]
    if not rules_fit(n, k, rules) or not good_fits(n, good):
        return [NOT_AS_TOLD]
    return [count_taken(kinds_of_words(n, k, good, rules), length, p)]


def walk(n, k, rules, word):
    """The ending of the run on the word."""
    row = [k] + word + [k + 1]
    state = 0
    place = 0
    # There are n * len(row) pairs of state and place: who has made more steps has been in one pair twice.
    for done in range(n * len(row)):
        rule = rules[state * (k + 2) + row[place]]
        if rule == STOP_RULE:
            return Ending(STOPS, state, done + 1)
        state = rule // 2
        place = place + 1 if goes_right(rule) else place - 1
        if place == len(row):
            return Ending(LEAVES, state, done + 1)
    return Ending(GOES_ON, state, n * len(row))


def empty_table(n, k, rules):
    """The table of the word of no letter."""
    # Ahead of the left end nothing stands: it comes to the left end in state 0, and never from anywhere again.
    nothing = tuple([0] + [NEVER] * n)
    return longer_table(n, k, rules, nothing, k)


def longer_table(n, k, rules, known, sign):
    """The table of the row whose table is known with the sign put behind it."""
    crossings = [crossing_state(n, k, rules, known, sign, state) for state in range(n)]
    begin = known[0]
    return tuple([NEVER if begin == NEVER else crossings[begin]] + crossings)


def crossing_state(n, k, rules, known, sign, state):
    """The state in which it first goes right from the sign, if it begins there, behind the row whose table is known."""
    # Who is at the sign more than n times is there in one state twice, and so for ever.
    for visit in range(n):
        rule = rules[state * (k + 2) + sign]
        if rule == STOP_RULE:
            return NEVER
        state = rule // 2
        if goes_right(rule):
            return state
        state = known[1 + state]
        if state == NEVER:
            return NEVER
    return NEVER


def leaving_state(n, k, rules, known):
    """The state in which it leaves on a word of this table; NEVER if it doesn't."""
    return longer_table(n, k, rules, known, k + 1)[0]


def is_taken(n, k, good, rules, known):
    """Whether a word of this table is taken."""
    state = leaving_state(n, k, rules, known)
    return state != NEVER and (good >> state) & 1 == 1


def rules_without_stops(n, k, rules):
    """The rules of a machine with one state more, that leaves in that state where this one stops.

    A table doesn't tell whether it stops or goes on for ever. Of a machine that never stops it need not.
    """
    away = 2 * n + 1
    return [away if rule == STOP_RULE else rule for rule in rules] + [away] * (k + 2)


def always_leaves(n, k, rules):
    """Whether it leaves on every word."""
    return all([leaving_state(n, k, rules, known) != NEVER for known in reach_tables(n, k, rules)])


def reach_tables(n, k, rules):
    """Every word's table, and for each of them the tables with each letter put behind.

    They come in the order of their first words: the shorter first, of one length by the first letter that differs.
    """
    onward = {}
    waiting = [empty_table(n, k, rules)]
    while len(waiting) > 0:
        longer = []
        for known in waiting:
            if known not in onward:
                onward[known] = [longer_table(n, k, rules, known, letter) for letter in range(k)]
                longer.extend(onward[known])
        waiting = longer
    return onward


def first_taken(n, k, good, rules):
    """The shortest word that is taken, of those the first by its first letter that differs; None if none is taken."""
    onward = reach_tables(n, k, rules)
    words = {empty_table(n, k, rules): []}
    for known in onward:
        if is_taken(n, k, good, rules, known):
            return words[known]
        for letter in range(k):
            # The tables come in the order of their first words, so the word that is found first is the first one.
            words.setdefault(onward[known][letter], words[known] + [letter])
    return None


def kinds_of_words(n, k, good, rules):
    """For each kind of words that are alike whether they are taken, then the kinds with each letter put behind.

    The kinds are numbered in the order of their first words, whatever the machine: that order is the words' own, so
    machines that take the same words have equal answers.
    """
    # Words of one table are alike: what is put behind them is reached, and met again, in the same states.
    onward = reach_tables(n, k, rules)
    taken = {}
    for known in onward:
        taken[known] = is_taken(n, k, good, rules, known)
    kinds = part_kinds(taken, onward)
    rows = {}
    for known in onward:
        rows[kinds[known]] = tuple([taken[known]] + [kinds[longer] for longer in onward[known]])
    return list(rows.values())


def part_kinds(marks, onward):
    """For each table its kind; kinds are parted if their marks differ, or the marks of what follows, however far on."""
    kinds = number_kinds(marks)
    while True:
        finer = number_kinds(finer_marks(kinds, onward))
        # Each round only parts kinds further: if there are no more of them, they stay.
        if max(finer.values()) == max(kinds.values()):
            return kinds
        kinds = finer


def finer_marks(kinds, onward):
    """For each table its own kind and the kinds of what follows."""
    marks = {}
    for known in onward:
        marks[known] = tuple([kinds[known]] + [kinds[longer] for longer in onward[known]])
    return marks


def number_kinds(marks):
    """For each table a number, the same for equal marks, from 0 on in the order in which the marks come."""
    numbers = {}
    kinds = {}
    for known in marks:
        kinds[known] = numbers.setdefault(marks[known], len(numbers))
    return kinds


def count_taken(kinds, length, p):
    """How many words of that length are taken, modulo p, if these are the kinds of words."""
    # For each kind, how many words of some letters are taken when they are put behind it: of no letter, then of more.
    ways = [1 if kind[0] else 0 for kind in kinds]
    for letters in range(length):
        ways = [count_longer(kind, ways, p) for kind in kinds]
    # The word of no letter is the first one of all, so its kind is the first.
    return ways[0]


def count_longer(kind, ways, p):
    """The kind's own number of ways with one letter more, modulo p."""
    return sum([ways[longer] for longer in kind[1:]]) % p


def goes_right(rule):
    return rule % 2 == 1


def signed(number):
    """The number that is meant by one handed in modulo 2 ** 32."""
    return number if number < 2147483648 else number - 4294967296


def in_range(number, least, most):
    return least <= signed(number) and signed(number) <= most


def sizes_fit(n, k):
    return in_range(n, 1, MOST_STATES) and in_range(k, 1, MOST_LETTERS)


def length_fits(length):
    return in_range(length, 0, LONGEST_WORD)


def rules_fit(n, k, rules):
    return all([rule_fits(n, k, at % (k + 2), rule) for at, rule in enumerate(rules)])


def rule_fits(n, k, sign, rule):
    if rule == STOP_RULE:
        return True
    if rule >= 2 * n:
        return False
    return sign != k or goes_right(rule)


def good_fits(n, good):
    # good is no int in the document's sense, so it is not turned below 0.
    return good >> n == 0


def word_fits(k, word):
    return all([letter < k for letter in word])
