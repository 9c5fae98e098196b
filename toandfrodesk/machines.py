"""Machines of few states that read a word to and fro between two ends."""

MOST_STATES = 5
MOST_LETTERS = 4
LONGEST_WORD = 4096

STOP_RULE = 255

OUT_OF_RANGE = -2
NOT_AS_TOLD = -3
NO_END = -5

LEAVES = "leaves"
STOPS = "stops"
GOES_ON = "goes on"


class Ending:
    """How a run ends, in which state, and by which step (counted from 1)."""

    def __init__(self, how, state, step):
        self.how = how
        self.state = state
        self.step = step


def run(n, k, good, length, rules, word):
    """1 if it leaves in a good state, 0 if in another, 2 if it stops, 3 if it goes on for ever."""
    if not sizes_fit(n, k) or not length_fits(length):
        return [OUT_OF_RANGE]
    if not rules_fit(n, k, rules) or not good_fits(n, good) or not word_fits(k, word):
        return [NOT_AS_TOLD]
    ending = walk(n, k, rules, word)
    if ending.how == GOES_ON:
        return [3]
    if ending.how == STOPS:
        return [2]
    return [(good >> ending.state) & 1]


def steps(n, k, length, rules, word):
    """In how many steps it leaves or stops; -5 if it goes on for ever."""
    if not sizes_fit(n, k) or not length_fits(length):
        return [OUT_OF_RANGE]
    if not rules_fit(n, k, rules) or not word_fits(k, word):
        return [NOT_AS_TOLD]
    ending = walk(n, k, rules, word)
    if ending.how == GOES_ON:
        return [NO_END]
    return [ending.step]


def walk(n, k, rules, word):
    """The ending of the run on the word."""
    row = [k] + word + [k + 1]
    state = 0
    place = 0
    # There are n * len(row) pairs of state and place: who has made more steps has been in one pair twice.
    for done in range(n * len(row)):
        rule = rules[state * (k + 2) + row[place]]
        if rule == STOP_RULE:
            return Ending(STOPS, state, done + 1)
        state = rule // 2
        place = place + 1 if goes_right(rule) else place - 1
        if place == len(row):
            return Ending(LEAVES, state, done + 1)
    return Ending(GOES_ON, state, n * len(row))


def goes_right(rule):
    return rule % 2 == 1


def signed(number):
    """The number that is meant by one handed in modulo 2 ** 32."""
    return number if number < 2147483648 else number - 4294967296


def in_range(number, least, most):
    return least <= signed(number) and signed(number) <= most


def sizes_fit(n, k):
    return in_range(n, 1, MOST_STATES) and in_range(k, 1, MOST_LETTERS)


def length_fits(length):
    return in_range(length, 0, LONGEST_WORD)


def rules_fit(n, k, rules):
    return all([rule_fits(n, k, at % (k + 2), rule) for at, rule in enumerate(rules)])


def rule_fits(n, k, sign, rule):
    if rule == STOP_RULE:
        return True
    if rule >= 2 * n:
        return False
    return sign != k or goes_right(rule)


def good_fits(n, good):
    # good is no int in the document's sense, so it is not turned below 0.
    return good >> n == 0


def word_fits(k, word):
    return all([letter < k for letter in word])
