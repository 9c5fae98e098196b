"""Machines for the tests, and a second way to find how a run ends."""

STOP = 255


def right(state):
    return 2 * state + 1


def left(state):
    return 2 * state


def below_zero(number):
    """A number as an int is handed in."""
    return number % 2 ** 32


def to_and_fro(n, k):
    """Even states go right and odd ones left, each end hands on to the next state; the last state leaves or stops.

    With n odd it leaves at the right end in state n - 1; with n even it stops at the left end.
    """
    rules = []
    for state in range(n):
        onward = state % 2 == 0
        last = state == n - 1
        rules += [right(state) if onward else left(state)] * k
        if onward:
            rules.append(right(state))
            rules.append(right(state) if last else left(state + 1))
        else:
            rules.append(STOP if last else right(state + 1))
            rules.append(left(state))
    return rules


def follow(k, rules, word):
    """How a run ends: ("leaves", state, steps), ("stops", state, steps) or ("goes on",).

    It keeps every pair of place and state that it has been in, and goes by the signs' own places.
    """
    been = set()
    place, state = -1, 0
    while (place, state) not in been:
        been.add((place, state))
        sign = k if place < 0 else k + 1 if place >= len(word) else word[place]
        rule = rules[state * (k + 2):(state + 1) * (k + 2)][sign]
        if rule == STOP:
            return ("stops", state, len(been))
        state, rightward = divmod(rule, 2)
        if rightward and place == len(word):
            return ("leaves", state, len(been))
        place += 1 if rightward else -1
    return ("goes on",)


def expected_run(k, good, rules, word):
    end = follow(k, rules, word)
    if end[0] == "leaves":
        return [good // 2 ** end[1] % 2]
    return [2] if end[0] == "stops" else [3]


def expected_steps(k, rules, word):
    end = follow(k, rules, word)
    return [-5] if end[0] == "goes on" else [end[2]]


class Draws:
    """Numbers that look drawn by lot and are the same each time."""

    def __init__(self, seed):
        self.seed = seed

    def below(self, most):
        self.seed = (self.seed * 6364136223846793005 + 1442695040888963407) % 2 ** 64
        return (self.seed >> 33) % most

    def rule(self, n, k, sign):
        if self.below(8) == 0:
            return STOP
        if sign == k:
            return right(self.below(n))
        return self.below(2 * n)

    def rules(self, n, k):
        return [self.rule(n, k, at % (k + 2)) for at in range(n * (k + 2))]

    def word(self, k, length):
        return [self.below(k) for at in range(length)]
